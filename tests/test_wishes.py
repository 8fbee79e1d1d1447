import random
import unittest

from crownwalk.errors import Loose, TooMany, WalkError
from crownwalk.games import made
from crownwalk.solving import solved
from crownwalk.wishes import holds, signs, wish_game
from readings import (
    is_loose, seeded_game, seeded_wish, signs_by_the_point, where_it_holds, wish_game_by_the_point, wishes_of,
)

# 0 goes to 1, 1 to 0 and 2, 2 stays; 3 goes to 0 and 3.
GAME = ((0, 5, (1,)), (1, 0, (0, 2)), (0, 2, (2,)), (1, 2, (0, 3)))
ONE = ((0, 3, (0,)),)
TWO = ((1, 3, (0, 1)), (0, 4, (0,)))
A = ("name", "a")
B = ("name", "b")
IS = ("is", 2)
NOT = ("not", 2)

LOOSE = (
    A,
    ("all", A),
    ("and", IS, A),
    ("or", A, IS),
    # Behind its least or most, and ahead of it.
    ("and", ("least", "a", A), A),
    ("or", ("most", "a", IS), A),
    ("and", A, ("least", "a", A)),
    ("or", ("some", A), ("most", "a", A)),
    # Another name round it.
    ("least", "b", A),
    ("most", "ab", A),
    ("least", "aa", A),
    ("most", "b", ("least", "c", ("and", B, A))),
    # In one part, where the other part has it.
    ("most", "b", ("and", ("least", "a", A), ("least", "c", A))),
    ("and", ("and", ("least", "a", A), ("least", "b", A)), IS),
)


def long_wish(many):
    """A wish of so many signs."""
    wish = IS
    for _ in range(many - 1):
        wish = ("all", wish)
    return wish


def line(many):
    """A game of so many places."""
    return tuple((0, place, (place,)) for place in range(many))


class SignsTest(unittest.TestCase):
    def test_each_kind_alone(self):
        for wish, many in (
            (IS, 1), (NOT, 1), (A, 1), (("all", IS), 2), (("some", IS), 2), (("least", "a", IS), 2),
            (("most", "a", A), 2), (("and", IS, NOT), 3), (("or", IS, NOT), 3),
        ):
            self.assertEqual(signs(wish), many)

    def test_a_tuple_that_stands_twice_counts_twice(self):
        both = ("and", IS, IS)
        self.assertEqual(signs(("or", both, both)), 7)

    def test_loose_wishes_are_counted(self):
        for wish in LOOSE:
            self.assertEqual(signs(wish), len(signs_by_the_point(wish)))

    def test_24_signs(self):
        for many in range(1, 25):
            self.assertEqual(signs(long_wish(many)), many)

    def test_seeded_wishes(self):
        source = random.Random(19)
        for _ in range(300):
            many = source.randint(1, 24)
            wish = seeded_wish(source, many, range(4))
            self.assertEqual(signs(wish), many)
            self.assertEqual(len(signs_by_the_point(wish)), many)


class HoldsTest(unittest.TestCase):
    def check(self, wish, places, game=GAME):
        answer = holds(game, wish)
        self.assertIs(type(answer), list)
        self.assertEqual([type(told) for told in answer], [bool] * len(game))
        self.assertEqual([place for place in range(len(game)) if answer[place]], places)
        self.assertEqual(where_it_holds(game, wish), set(places))

    def test_is_and_not(self):
        self.check(("is", 2), [2, 3])
        self.check(("not", 2), [0, 1])
        self.check(("is", 5), [0])
        self.check(("is", 7), [])
        self.check(("not", 7), [0, 1, 2, 3])
        self.check(("is", 0), [1])

    def test_crowns_of_thirty_figures(self):
        game = ((0, 10 ** 29, (0, 1)), (1, 10 ** 29 + 1, (1,)))
        self.check(("is", 10 ** 29), [0], game)
        self.check(("not", 10 ** 29), [1], game)
        self.check(("all", ("is", 10 ** 29 + 1)), [1], game)

    def test_and_and_or(self):
        self.check(("and", ("is", 2), ("some", ("is", 5))), [3])
        self.check(("and", ("some", ("is", 5)), ("is", 2)), [3])
        self.check(("or", ("is", 5), ("is", 0)), [0, 1])
        self.check(("and", ("is", 5), ("is", 0)), [])
        self.check(("or", ("is", 5), ("not", 5)), [0, 1, 2, 3])

    def test_all_and_some(self):
        self.check(("all", ("is", 2)), [2])
        self.check(("some", ("is", 2)), [1, 2, 3])
        self.check(("all", ("is", 0)), [0])
        self.check(("some", ("is", 5)), [1, 3])
        self.check(("all", ("not", 0)), [1, 2, 3])
        self.check(("all", ("some", ("is", 5))), [0])
        self.check(("some", ("all", ("is", 0))), [1, 3])

    def test_least_and_most_of_a_name_alone(self):
        self.check(("least", "a", A), [])
        self.check(("most", "a", A), [0, 1, 2, 3])

    def test_least_and_most_without_their_names(self):
        self.check(("least", "a", IS), [2, 3])
        self.check(("most", "a", IS), [2, 3])

    def test_to_come_to_a_crown(self):
        self.check(("least", "a", ("or", ("is", 5), ("some", A))), [0, 1, 3])
        self.check(("least", "a", ("or", ("is", 0), ("all", A))), [0, 1])
        self.check(("most", "a", ("or", ("is", 0), ("all", A))), [0, 1, 2, 3])

    def test_to_stay_with_a_crown(self):
        self.check(("most", "a", ("and", ("is", 2), ("some", A))), [2, 3])
        self.check(("most", "a", ("and", ("is", 2), ("all", A))), [2])
        self.check(("least", "a", ("and", ("is", 2), ("all", A))), [])

    def test_least_and_most_within_one_another(self):
        again = ("most", "a", ("least", "b", ("some", ("or", ("and", ("is", 5), A), B))))
        self.check(again, [0, 1, 3])
        at_last = ("least", "a", ("most", "b", ("some", ("or", ("and", ("is", 5), A), ("and", ("not", 5), B)))))
        self.check(at_last, [0, 1, 2, 3])
        # On a ring of a 5 and a 0 the 5 comes again and again, and its ring is never left.
        ring = ((0, 5, (1,)), (0, 0, (0,)))
        self.check(again, [0, 1], ring)
        self.check(at_last, [], ring)

    def test_the_same_name_within_itself(self):
        # The inner one alone is meant within it.
        self.check(("least", "a", ("or", ("is", 5), ("most", "a", ("and", IS, ("some", A))))), [0, 2, 3])
        self.check(("least", "a", ("most", "a", A)), [0, 1, 2, 3])
        self.check(("most", "a", ("least", "a", A)), [])
        # Beside the inner one the outer one is meant.
        self.check(("most", "a", ("and", A, ("most", "a", A))), [0, 1, 2, 3])
        self.check(("most", "a", ("or", A, ("least", "a", A))), [0, 1, 2, 3])
        self.check(("most", "a", ("or", ("least", "a", A), A)), [0, 1, 2, 3])
        self.check(("least", "a", ("or", A, ("least", "a", A))), [])

    def test_the_same_name_in_both_parts(self):
        self.check(("and", ("most", "a", A), ("least", "a", ("or", ("is", 5), ("some", A)))), [0, 1, 3])
        self.check(("or", ("least", "a", A), ("most", "a", ("and", IS, ("all", A)))), [2])

    def test_long_names(self):
        self.check(("most", "abcdefgh", ("least", "abcdefg", ("name", "abcdefgh"))), [0, 1, 2, 3])
        self.check(("most", "abcdefgh", ("least", "abcdefg", ("name", "abcdefg"))), [])

    def test_names_that_are_words_of_wishes(self):
        for name in ("is", "not", "and", "or", "all", "some", "least", "most", "name"):
            self.check(("least", name, ("or", ("is", 5), ("some", ("name", name)))), [0, 1, 3])

    def test_hands_decide_nothing(self):
        source = random.Random(20)
        for _ in range(200):
            game = seeded_game(source, source.randint(1, 5), range(3))
            wish = seeded_wish(source, source.randint(1, 12), range(3))
            answers = [holds(tuple((owner, crown, ways) for owner, (_, crown, ways) in zip(owners, game)), wish)
                       for owners in ([0] * 5, [1] * 5, [0, 1, 0, 1, 0], [1, 1, 0, 0, 1])]
            self.assertEqual(answers, [holds(game, wish)] * 4)

    def test_every_small_wish(self):
        games = (
            ((0, 0, (0,)),), ((0, 1, (0, 1)), (1, 0, (1,))), ((0, 1, (1,)), (1, 0, (0,))),
            ((0, 0, (0, 1)), (1, 1, (2,)), (0, 1, (0,))), ((1, 0, (1, 2)), (0, 1, (1,)), (1, 0, (0, 2))),
        )
        for many in (1, 2, 3, 4):
            for wish in wishes_of(many, (0, 1), ("a", "b")):
                for game in games:
                    if not is_loose(wish):
                        there = where_it_holds(game, wish)
                        self.assertEqual(holds(game, wish), [place in there for place in range(len(game))])

    def test_seeded_wishes(self):
        source = random.Random(21)
        for _ in range(700):
            game = seeded_game(source, source.randint(1, 4), range(3))
            wish = seeded_wish(source, source.randint(3, 12), range(3))
            if sum(sign[0] in ("least", "most") for sign, _ in signs_by_the_point(wish)) > 3:
                continue
            there = where_it_holds(game, wish)
            self.assertEqual(holds(game, wish), [place in there for place in range(len(game))], (game, wish))

    def test_24_signs_over_24_places(self):
        source = random.Random(22)
        for most_ways in (1, 2, 4, 24):
            for _ in range(3):
                crowns = [10 ** 29 + crown for crown in range(24)]
                game = seeded_game(source, 24, crowns, most_ways)
                self.assertEqual(len(holds(game, seeded_wish(source, 24, crowns))), 24)
        steps = A
        for _ in range(21):
            steps = ("some", steps)
        ring = tuple((place % 2, place, ((place + 1) % 24,)) for place in range(24))
        # 21 steps and 24 places have a common measure of 3.
        self.assertEqual(holds(ring, ("least", "a", ("or", ("is", 4), steps))), [place % 3 == 1 for place in range(24)])

    def test_deep_wishes_over_24_places(self):
        # To call a crown a 3 helps hand 0 with none of 0 to 4, so the last name needn't ask for its crown.
        told = ("name", "d")
        for crown, name in ((0, "a"), (1, "b"), (2, "c"), (4, "e")):
            told = ("or", ("and", ("is", crown), ("name", name)), told)
        source = random.Random(23)
        answers = set()
        for kind, owner in (("some", 0), ("all", 1)):
            wish = (kind, told)
            for outer, name in (("most", "a"), ("least", "b"), ("most", "c"), ("least", "d"), ("most", "e")):
                wish = (outer, name, wish)
            self.assertEqual(signs(wish), 23)
            for _ in range(6):
                # One hand leads all walks: it is as if it alone said which ways some or all of them go.
                game = tuple((owner, crown, ways) for _, crown, ways in seeded_game(source, 24, range(5), 2))
                self.assertEqual(holds(game, wish), [hand == 0 for hand in solved(game)])
                answers |= set(holds(game, wish))
        self.assertEqual(answers, {True, False})


class WishGameTest(unittest.TestCase):
    def check(self, game, wish, places):
        self.assertEqual(wish_game(game, wish), places)
        self.assertEqual(wish_game_by_the_point(game, wish), places)
        # A game like any other.
        self.assertEqual(made([(hand, crown, list(ways)) for hand, crown, ways in places]), places)

    def test_is_and_not(self):
        self.check(TWO, ("is", 3), ((0, 0, (0,)), (0, 1, (1,))))
        self.check(TWO, ("not", 3), ((0, 1, (0,)), (0, 0, (1,))))

    def test_and_and_or(self):
        self.check(ONE, ("and", ("is", 3), ("is", 4)), ((1, 0, (1, 2)), (0, 0, (1,)), (0, 1, (2,))))
        self.check(ONE, ("or", ("is", 3), ("is", 4)), ((0, 0, (1, 2)), (0, 0, (1,)), (0, 1, (2,))))

    def test_all_and_some(self):
        self.check(TWO, ("all", ("is", 3)), ((1, 0, (1, 3)), (0, 0, (1,)), (1, 0, (1,)), (0, 1, (3,))))
        self.check(TWO, ("some", ("is", 3)), ((0, 0, (1, 3)), (0, 0, (1,)), (0, 0, (1,)), (0, 1, (3,))))

    def test_least_and_most(self):
        self.check(TWO, ("least", "a", A), ((0, 1, (1,)), (0, 0, (0,)), (0, 1, (3,)), (0, 0, (2,))))
        self.check(TWO, ("most", "a", A), ((0, 0, (1,)), (0, 0, (0,)), (0, 0, (3,)), (0, 0, (2,))))

    def test_crowns_by_how_many_are_within(self):
        wish = ("least", "a", ("most", "b", ("or", ("least", "c", B), ("most", "d", ("least", "e", A)))))
        crowns = [crown for _, crown, _ in wish_game(ONE, wish)]
        self.assertEqual(crowns, [9, 6, 0, 1, 0, 2, 1, 0])
        self.check(ONE, wish, (
            (0, 9, (1,)), (0, 6, (2,)), (0, 0, (3, 5)), (0, 1, (4,)), (0, 0, (1,)), (0, 2, (6,)), (0, 1, (7,)),
            (0, 0, (0,)),
        ))

    def test_the_same_name_within_itself(self):
        wish = ("least", "a", ("or", ("most", "a", A), A))
        self.check(ONE, wish, ((0, 3, (1,)), (0, 0, (2, 4)), (0, 0, (3,)), (0, 0, (2,)), (0, 0, (0,))))
        wish = ("least", "a", ("or", A, ("most", "a", A)))
        self.check(ONE, wish, ((0, 3, (1,)), (0, 0, (2, 3)), (0, 0, (0,)), (0, 0, (4,)), (0, 0, (3,))))

    def test_numbers_ahead_of_those_within_in_their_order(self):
        wish = ("and", ("or", ("is", 3), ("is", 4)), ("or", ("is", 5), ("not", 6)))
        self.check(ONE, wish, (
            (1, 0, (1, 4)), (0, 0, (2, 3)), (0, 0, (2,)), (0, 1, (3,)), (0, 0, (5, 6)), (0, 1, (5,)), (0, 0, (6,)),
        ))

    def test_places_by_places_and_signs(self):
        game = ((0, 1, (1,)), (0, 2, (2,)), (0, 1, (0, 1, 2)))
        wish = ("all", ("and", ("is", 1), ("not", 1)))
        self.check(game, wish, (
            (1, 0, (5,)), (1, 0, (2, 3)), (0, 0, (2,)), (0, 1, (3,)),
            (1, 0, (9,)), (1, 0, (6, 7)), (0, 1, (6,)), (0, 0, (7,)),
            (1, 0, (1, 5, 9)), (1, 0, (10, 11)), (0, 0, (10,)), (0, 1, (11,)),
        ))

    def test_24_places_are_a_game(self):
        for many, size in ((1, 24), (24, 1), (2, 12), (12, 2), (4, 6), (6, 4), (3, 8), (8, 3)):
            game = wish_game(line(size), long_wish(many))
            self.assertEqual(len(game), 24)
            self.assertEqual(game, wish_game_by_the_point(line(size), long_wish(many)))

    def test_25_places_are_too_many(self):
        for many, size in ((25, 1), (5, 5), (1, 25), (13, 2), (2, 13), (24, 24), (24, 2)):
            with self.assertRaises(TooMany) as caught:
                wish_game(line(size), long_wish(many))
            self.assertIs(type(caught.exception), TooMany)
            self.assertIsInstance(caught.exception, WalkError)
            self.assertIsInstance(caught.exception, ValueError)
            self.assertEqual(len(holds(line(size), long_wish(many))), size)

    def test_every_small_wish(self):
        for many in (1, 2, 3, 4):
            for wish in wishes_of(many, (3, 4), ("a", "b")):
                if not is_loose(wish):
                    for game in (ONE, TWO):
                        self.assertEqual(wish_game(game, wish), wish_game_by_the_point(game, wish))

    def test_seeded_wishes(self):
        source = random.Random(24)
        for _ in range(500):
            size = source.randint(1, 8)
            game = seeded_game(source, size, range(3), 8)
            wish = seeded_wish(source, source.randint(1, 24 // size), range(3))
            self.assertEqual(wish_game(game, wish), wish_game_by_the_point(game, wish))

    def test_tuples_all_through(self):
        for wish in (("all", IS), ("and", IS, NOT), ("least", "a", A)):
            places = wish_game(TWO, wish)
            self.assertIs(type(places), tuple)
            for place in places:
                self.assertEqual([type(part) for part in (place, place[2])], [tuple, tuple])
                self.assertEqual({type(part) for part in (*place[:2], *place[2])}, {int})


class LooseTest(unittest.TestCase):
    def check_loose(self, function, game, wish):
        with self.assertRaises(Loose) as caught:
            function(game, wish)
        self.assertIs(type(caught.exception), Loose)
        self.assertIsInstance(caught.exception, WalkError)
        self.assertIsInstance(caught.exception, ValueError)

    def test_loose_names(self):
        for wish in LOOSE:
            self.assertTrue(is_loose(wish))
            self.check_loose(holds, GAME, wish)
            self.check_loose(wish_game, ONE, wish)

    def test_loose_ahead_of_too_many(self):
        for wish in LOOSE:
            self.check_loose(wish_game, line(24), ("and", wish, IS))
            self.check_loose(wish_game, line(24), ("and", IS, wish))
        self.check_loose(wish_game, line(25), A)

    def test_every_small_wish(self):
        for many in (1, 2, 3, 4):
            for wish in wishes_of(many, (0,), ("a", "b")):
                if is_loose(wish):
                    self.check_loose(holds, TWO, wish)
                    self.check_loose(wish_game, TWO, wish)
                else:
                    self.assertEqual(len(holds(TWO, wish)), 2)
                    self.assertEqual(len(wish_game(TWO, wish)), 2 * many)


class PointFourteenTest(unittest.TestCase):
    """A wish holds at a place just where hand 0 wins the place of its sign 0 there."""

    def check(self, game, wish):
        hands = solved(wish_game(game, wish))
        many = signs(wish)
        self.assertEqual(holds(game, wish), [hands[place * many] == 0 for place in range(len(game))])
        there = where_it_holds(game, wish)
        self.assertEqual([hand == 0 for hand in hands[::many]], [place in there for place in range(len(game))])

    def test_every_small_wish(self):
        games = [ONE, TWO, ((0, 3, (1,)), (0, 4, (0, 1))), ((1, 4, (2,)), (0, 3, (0, 1)), (1, 3, (1, 2)))]
        for many in (1, 2, 3, 4):
            for wish in wishes_of(many, (3,), ("a", "b")):
                for game in games:
                    if not is_loose(wish):
                        self.check(game, wish)

    def test_seeded_wishes(self):
        source = random.Random(25)
        for _ in range(500):
            size = source.randint(1, 4)
            game = seeded_game(source, size, range(3))
            wish = seeded_wish(source, source.randint(1, 24 // size), range(3))
            if sum(sign[0] in ("least", "most") for sign, _ in signs_by_the_point(wish)) <= 3:
                self.check(game, wish)


class HandedOutTest(unittest.TestCase):
    def test_what_is_handed_out_may_be_changed(self):
        wish = ("least", "a", ("or", ("is", 5), ("some", A)))
        answer = holds(GAME, wish)
        answer.clear()
        self.assertEqual(holds(GAME, wish), [True, True, False, True])

    def test_answers_after_a_refusal(self):
        for wish in LOOSE:
            with self.assertRaises(Loose):
                holds(GAME, wish)
        self.assertEqual(holds(GAME, ("most", "a", A)), [True] * 4)
        with self.assertRaises(Loose):
            holds(GAME, A)


if __name__ == "__main__":
    unittest.main()
