"""The names and arguments of the interface, and what holds over the whole program."""

import importlib
import inspect
import sys
import unittest

from crownwalk.games import classes, folded, made, turned
from crownwalk.notes import read, shown
from crownwalk.plans import feared, keeps, paper, shows, wins
from crownwalk.pulls import pull_steps, pulled
from crownwalk.solving import plan_of, solved
from crownwalk.walks import walked, winner
from crownwalk.wishes import holds, signs, wish_game

INTERFACE = {
    "games": {"made": "rows", "turned": "game", "classes": "game", "folded": "game"},
    "notes": {"shown": "game", "read": "text"},
    "pulls": {"pulled": "game hand goals", "pull_steps": "game hand goals"},
    "plans": {
        "keeps": "game hand plan", "wins": "game hand plan", "feared": "game hand", "paper": "game hand plan",
        "shows": "game hand plan paper",
    },
    "solving": {"solved": "game", "plan_of": "game hand"},
    "walks": {"walked": "game steps start", "winner": "game ring"},
    "wishes": {"signs": "wish", "holds": "game wish", "wish_game": "game wish"},
}
CROWNS = [10 ** 29 + (place * 7) % 24 for place in range(24)]
# Places whose ways go far, both onwards and back; crowns all unlike, and of thirty figures.
WIDE = made([
    (place % 2, CROWNS[place], sorted({(place + 1) % 24, (place * 5 + 2) % 24, place * 11 % 24})) for place in range(24)
])


def deep_wish():
    """A wish of 24 signs, one within another."""
    wish = ("name", "a")
    for number in range(11):
        wish = (("least", "most")[number % 2], "abcdefghijk"[number], ("some", wish))
    return ("most", "a", wish)


class InterfaceTest(unittest.TestCase):
    def test_names_and_arguments(self):
        for name, functions in INTERFACE.items():
            module = importlib.import_module("crownwalk." + name)
            for function, arguments in functions.items():
                with self.subTest(function=function):
                    parameters = inspect.signature(getattr(module, function)).parameters
                    self.assertEqual(list(parameters), arguments.split())

    def test_most(self):
        self.assertEqual(importlib.import_module("crownwalk.games").MOST, 24)


class WholeTest(unittest.TestCase):
    def answers(self):
        """An answer of every function about one game of 24 places."""
        told = [turned(WIDE), classes(WIDE), folded(WIDE), shown(WIDE), read(shown(WIDE)), solved(WIDE)]
        steps = [ways[0] for _, _, ways in WIDE]
        for hand in (0, 1):
            plan = plan_of(WIDE, hand)
            told += [pulled(WIDE, hand, [3]), pull_steps(WIDE, hand, [3]), plan, feared(WIDE, hand)]
            told += [keeps(WIDE, hand, plan), wins(WIDE, hand, plan)]
            told += [paper(WIDE, hand, plan), shows(WIDE, hand, plan, paper(WIDE, hand, plan))]
        for start in range(24):
            told += [*walked(WIDE, steps, start), winner(WIDE, walked(WIDE, steps, start)[1])]
        wish = ("is", CROWNS[5])
        return told + [signs(deep_wish()), holds(WIDE, deep_wish()), holds(WIDE, wish), wish_game(WIDE, wish)]

    def test_answers_are_not_other_for_what_was_changed(self):
        before = repr(WIDE)
        first = self.answers()
        kept = repr(first)
        for answer in first:
            if isinstance(answer, dict):
                for value in answer.values():
                    if isinstance(value, list):
                        value.append(7)
            if isinstance(answer, (list, dict)):
                answer.clear()
        self.assertEqual(repr(self.answers()), kept)
        self.assertEqual(repr(WIDE), before)

    def test_calls_go_no_deeper_than_some_hundred(self):
        limit = sys.getrecursionlimit()
        self.addCleanup(sys.setrecursionlimit, limit)
        sys.setrecursionlimit(len(inspect.stack()) + 150)
        self.assertEqual(len(self.answers()[0]), 24)


if __name__ == "__main__":
    unittest.main()
