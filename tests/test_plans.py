import copy
import itertools
import random
import unittest

from crownwalk.errors import Lost, WalkError
from crownwalk.plans import feared, keeps, paper, shows, wins
from readings import (
    feared_by_the_point, games_of, keeps_by_the_point, paper_by_the_point, plans_of, seeded_game, seeded_plan,
    shows_by_the_point, wins_by_the_point,
)

# Place 0 is of hand 0, place 1 of hand 1; both have two ways, place 2 stays.
SMALL = ((0, 0, (0, 1)), (1, 0, (0, 2)), (0, 0, (2,)))
# A line of odd crowns down to a place that stays, with one greater even crown amid it.
LINE = (
    (0, 3, (1,)), (0, 0, (2,)), (0, 3, (3,)), (0, 4, (4,)), (0, 3, (5,)), (0, 1, (6,)), (0, 0, (6,)),
)
LINE_PLAN = {0: 1, 1: 2, 2: 3, 3: 4, 4: 5, 5: 6, 6: 6}
# Crowns all unlike, of thirty figures: each place goes back to all ahead of it, and to the next.
WIDE = tuple(
    (place % 2, 10 ** 29 + (place * 7) % 24, tuple(range(min(place + 2, 24)))) for place in range(24)
)


def exchanged(game):
    """The same game with the hands exchanged and each crown one greater, without the program's help."""
    return tuple((1 - hand, crown + 1, ways) for hand, crown, ways in game)


class KeepsTest(unittest.TestCase):
    def check(self, game, hand, plan, answer):
        """The answer for the hand, and for the other in the game exchanged."""
        for asked, owner in ((game, hand), (exchanged(game), 1 - hand)):
            before = dict(plan)
            self.assertIs(keeps(asked, owner, plan), answer)
            self.assertEqual(plan, before)

    def test_a_plan_of_no_places(self):
        for hand in (0, 1):
            self.check(SMALL, hand, {}, True)
            self.check(((hand, 1, (0,)),), hand, {}, True)

    def test_all_places(self):
        self.check(SMALL, 0, {0: 1, 1: None, 2: 2}, True)
        self.check(SMALL, 1, {0: None, 1: 0, 2: None}, True)

    def test_some_places(self):
        self.check(SMALL, 0, {2: 2}, True)
        self.check(SMALL, 0, {0: 0}, True)
        self.check(SMALL, 1, {2: None}, True)
        self.check(SMALL, 1, {1: 2, 2: None}, True)

    def test_a_key_below_nought(self):
        for key in (-1, -2, -3, -4, -1000):
            self.check(SMALL, 0, {key: None}, False)
            self.check(SMALL, 0, {2: 2, key: None}, False)
            self.check(SMALL, 0, {key: None, 0: 1, 1: None, 2: 2}, False)

    def test_a_key_beyond_the_last_place(self):
        for key in (3, 4, 1000):
            self.check(SMALL, 0, {key: None}, False)
            self.check(SMALL, 1, {key: None}, False)
            self.check(SMALL, 0, {2: 2, key: None}, False)
            self.check(SMALL, 0, {key: None, 0: 1, 1: None, 2: 2}, False)

    def test_a_value_that_is_a_place_but_no_way(self):
        self.check(SMALL, 0, {0: 2, 2: 2}, False)
        self.check(SMALL, 0, {0: 2, 1: None, 2: 2}, False)
        self.check(SMALL, 1, {0: None, 1: 1, 2: None}, False)

    def test_a_value_that_is_no_place(self):
        for value in (-1000, -2, -1, 3, 1000):
            self.check(SMALL, 0, {2: value}, False)
            self.check(SMALL, 0, {0: value, 1: None, 2: 2}, False)

    def test_a_value_that_is_held_but_no_place(self):
        self.check(SMALL, 0, {2: 3, 3: None}, False)
        self.check(SMALL, 0, {2: -1, -1: None}, False)

    def test_a_value_that_is_a_way_but_not_held(self):
        self.check(SMALL, 0, {0: 1}, False)
        self.check(SMALL, 0, {0: 1, 2: 2}, False)
        self.check(SMALL, 1, {1: 2}, False)

    def test_one_way_of_the_other_hand_not_held(self):
        self.check(SMALL, 0, {0: 1, 1: None}, False)
        self.check(SMALL, 0, {1: None, 2: 2}, False)
        self.check(SMALL, 1, {0: None}, False)
        self.check(SMALL, 0, {0: 0, 1: None, 2: 2}, True)

    def test_crowns_decide_nothing(self):
        for crown in (0, 1, 2, 10 ** 29):
            game = tuple((owner, crown, ways) for owner, _, ways in SMALL)
            self.check(game, 0, {0: 1, 1: None, 2: 2}, True)
            self.check(game, 0, {0: 1, 1: None}, False)

    def test_every_plan_of_small_games(self):
        for size in (1, 2):
            values = range(-1, size + 1)
            for game in games_of(size, (0,)):
                for hand in (0, 1):
                    for keys in (keys for many in range(size + 3)
                                 for keys in itertools.combinations(range(-1, size + 1), many)):
                        told = [values if 0 <= key < size and game[key][0] == hand else (None,) for key in keys]
                        for chosen in itertools.product(*told):
                            plan = dict(zip(keys, chosen))
                            self.assertIs(keeps(game, hand, plan), keeps_by_the_point(game, hand, plan))

    def test_wide_games(self):
        source = random.Random(6)
        answers = set()
        for _ in range(3000):
            game = seeded_game(source, source.randint(3, 24), (0, 1), 2)
            for hand in (0, 1):
                plan = seeded_plan(source, game, hand)
                answers.add(keeps(game, hand, plan))
                self.assertIs(keeps(game, hand, plan), keeps_by_the_point(game, hand, plan))
        self.assertEqual(answers, {True, False})


class WinsTest(unittest.TestCase):
    def check(self, game, hand, plan, answer):
        for asked, owner in ((game, hand), (exchanged(game), 1 - hand)):
            before = dict(plan)
            self.assertIs(wins(asked, owner, plan), answer)
            self.assertEqual(plan, before)

    def test_no_places(self):
        for hand in (0, 1):
            for crown in (0, 1):
                self.check(((hand, crown, (0,)),), hand, {}, True)

    def test_a_round_of_one_step(self):
        for crown in (0, 1, 2, 3, 10 ** 29, 10 ** 29 + 1):
            self.check(((0, crown, (0,)),), 0, {0: 0}, crown % 2 == 0)
            self.check(((1, crown, (0,)),), 0, {0: None}, crown % 2 == 0)
            self.check(((0, crown, (0,)),), 1, {0: None}, crown % 2 == 1)

    def test_a_longer_round(self):
        for crowns in itertools.product(range(4), repeat=3):
            game = tuple((place % 2, crown, ((place + 1) % 3,)) for place, crown in enumerate(crowns))
            self.check(game, 0, {0: 1, 1: None, 2: 0}, max(crowns) % 2 == 0)
            self.check(game, 1, {0: None, 1: 2, 2: None}, max(crowns) % 2 == 1)

    def test_a_round_of_all_places(self):
        for most in (24, 25):
            game = tuple((0, most if place == 17 else place, ((place + 1) % 24,)) for place in range(24))
            self.check(game, 0, {place: (place + 1) % 24 for place in range(24)}, most % 2 == 0)

    def test_greater_crowns_ahead_of_a_round_save_nothing(self):
        # 0 and 1 have even crowns that are greater, but the round of 2 and 3 never meets them again.
        game = ((0, 8, (1,)), (1, 6, (2,)), (0, 3, (3,)), (1, 2, (2,)))
        self.check(game, 0, {0: 1, 1: None, 2: 3, 3: None}, False)
        self.check(game, 1, {0: None, 1: 2, 2: None, 3: 2}, True)

    def test_greater_crowns_ahead_of_a_round_harm_nothing(self):
        game = ((0, 9, (1,)), (1, 7, (2,)), (0, 3, (3,)), (1, 4, (2,)))
        self.check(game, 0, {0: 1, 1: None, 2: 3, 3: None}, True)

    def test_greater_crowns_to_which_a_round_can_go_off(self):
        # Hand 1 may go round by 0 and 1 for ever, and needn't go on to the 8.
        game = ((0, 3, (1,)), (1, 2, (0, 2)), (0, 8, (0,)))
        self.check(game, 0, {0: 1, 1: None, 2: 0}, False)

    def test_two_rounds_through_one_place(self):
        # The round by 1 has 4 as its greatest crown, that by 2 has 3, unless place 0 has a greater one.
        for crown, answer in ((0, False), (1, False), (2, False), (3, False), (4, True), (5, False), (6, True)):
            game = ((1, crown, (1, 2)), (0, 4, (0,)), (0, 3, (0,)))
            self.check(game, 0, {0: None, 1: 0, 2: 0}, answer)
        game = ((1, 0, (1, 2)), (0, 4, (0,)), (0, 2, (0,)))
        self.check(game, 0, {0: None, 1: 0, 2: 0}, True)
        game = ((0, 0, (1, 2)), (0, 4, (0,)), (0, 3, (0,)))
        self.check(game, 0, {0: 1, 1: 0, 2: 0}, True)
        self.check(game, 0, {0: 2, 1: 0, 2: 0}, False)

    def test_the_same_crown_at_several_places(self):
        game = ((1, 3, (1,)), (0, 3, (2,)), (0, 4, (0,)))
        self.check(game, 0, {0: None, 1: 2, 2: 0}, True)
        game = ((1, 3, (1, 2)), (0, 3, (0,)), (0, 4, (0,)))
        self.check(game, 0, {0: None, 1: 0, 2: 0}, False)

    def test_a_plan_that_does_not_keep(self):
        game = ((0, 2, (0, 1)), (1, 2, (0, 1)), (0, 2, (2,)))
        for plan in ({-1: None}, {3: None}, {0: 1}, {0: 2, 2: 2}, {1: None}, {0: -1}, {0: 0, 7: None}):
            self.check(game, 0, plan, False)
        self.check(game, 0, {0: 0, 1: None}, True)

    def test_rounds_that_are_not_held(self):
        game = ((0, 1, (0, 1)), (0, 2, (1,)), (1, 1, (2,)))
        self.check(game, 0, {1: 1}, True)
        self.check(game, 0, {0: 1, 1: 1}, True)
        self.check(game, 0, {0: 0, 1: 1}, False)

    def test_every_plan_of_small_games(self):
        answers = set()
        for size, crowns in ((1, (0, 1, 2, 3)), (2, (0, 1, 2, 3)), (3, (0, 1))):
            for game in games_of(size, crowns):
                for hand in (0, 1):
                    for plan in plans_of(game, hand):
                        answer = wins(game, hand, plan)
                        answers.add(answer)
                        self.assertIs(answer, wins_by_the_point(game, hand, plan))
        self.assertEqual(answers, {True, False})

    def test_wide_games(self):
        source = random.Random(7)
        answers = set()
        for _ in range(3000):
            game = seeded_game(source, source.randint(3, 24), range(6), 2)
            for hand in (0, 1):
                plan = {place: source.choice(ways) if owner == hand else None
                        for place, (owner, _, ways) in enumerate(game)}
                answers.add(wins(game, hand, plan))
                self.assertIs(wins(game, hand, plan), wins_by_the_point(game, hand, plan))
        self.assertEqual(answers, {True, False})


class FearedTest(unittest.TestCase):
    def test_each_once_rising(self):
        game = ((0, 5, (0,)), (1, 1, (0,)), (0, 5, (0,)), (1, 2, (0,)), (0, 0, (0,)), (1, 3, (0,)), (0, 2, (0,)))
        self.assertEqual(feared(game, 0), [1, 3, 5])
        self.assertEqual(feared(game, 1), [0, 2])

    def test_none(self):
        self.assertEqual(feared(((0, 2, (0,)), (1, 0, (0,))), 0), [])
        self.assertEqual(feared(((0, 3, (0,)), (1, 1, (0,))), 1), [])

    def test_whoever_has_the_place(self):
        for owner in (0, 1):
            self.assertEqual(feared(((owner, 3, (0,)),), 0), [3])
            self.assertEqual(feared(((owner, 4, (0,)),), 1), [4])

    def test_crowns_of_thirty_figures(self):
        self.assertEqual(feared(WIDE, 0), [10 ** 29 + crown for crown in range(1, 24, 2)])
        self.assertEqual(feared(WIDE, 1), [10 ** 29 + crown for crown in range(0, 24, 2)])

    def test_wide_games(self):
        source = random.Random(8)
        for _ in range(200):
            game = seeded_game(source, source.randint(1, 24), range(12))
            for hand in (0, 1):
                self.assertEqual(feared(game, hand), feared_by_the_point(game, hand))

    def test_a_list_of_its_own(self):
        crowns = feared(LINE, 0)
        self.assertIs(type(crowns), list)
        crowns.append(7)
        self.assertEqual(feared(LINE, 0), [1, 3])


class PaperTest(unittest.TestCase):
    def check(self, game, hand, plan, told):
        for asked, owner in ((game, hand), (exchanged(game), 1 - hand)):
            before = dict(plan)
            self.assertEqual(paper(asked, owner, plan), told)
            self.assertEqual(plan, before)

    def check_lost(self, game, hand, plan):
        for asked, owner in ((game, hand), (exchanged(game), 1 - hand)):
            before = dict(plan)
            with self.assertRaises(Lost) as caught:
                paper(asked, owner, plan)
            self.assertEqual(plan, before)
            self.assertIs(type(caught.exception), Lost)
            self.assertIsInstance(caught.exception, WalkError)
            self.assertIsInstance(caught.exception, ValueError)

    def test_counts_ahead_of_the_first_greater_crown(self):
        self.check(LINE, 0, LINE_PLAN, {
            0: [0, 2],  # the 3s of places 0 and 2, then the 4
            1: [0, 1],
            2: [0, 1],
            3: [0, 0],  # a greater crown itself
            4: [0, 1],
            5: [1, 0],
            6: [0, 0],
        })

    def test_a_crown_at_several_places_is_there_once(self):
        self.check(((0, 1, (1,)), (0, 1, (2,)), (0, 0, (2,))), 0, {0: 1, 1: 2, 2: 2}, {0: [2], 1: [1], 2: [0]})

    def test_the_greatest_of_several_walks(self):
        game = ((1, 0, (1, 2)), (0, 1, (3,)), (0, 1, (1,)), (0, 0, (3,)))
        self.check(game, 0, {0: None, 1: 3, 2: 1, 3: 3}, {0: [2], 1: [1], 2: [2], 3: [0]})

    def test_only_walks_that_follow_the_plan(self):
        game = ((0, 0, (1, 2)), (0, 1, (3,)), (0, 1, (1,)), (0, 0, (3,)))
        self.check(game, 0, {0: 1, 1: 3, 2: 1, 3: 3}, {0: [1], 1: [1], 2: [2], 3: [0]})
        self.check(game, 0, {0: 2, 1: 3, 2: 1, 3: 3}, {0: [2], 1: [1], 2: [2], 3: [0]})

    def test_rounds_below_the_feared_crown(self):
        # Hand 1 may go round by 0 and 1 as long as it likes, ahead of the 5 of place 2.
        game = ((1, 2, (1,)), (1, 0, (0, 2)), (0, 5, (3,)), (0, 4, (3,)))
        self.check(game, 0, {0: None, 1: None, 2: 3, 3: 3}, {0: [1], 1: [1], 2: [1], 3: [0]})

    def test_a_round_through_a_greater_crown(self):
        game = ((0, 1, (1,)), (0, 1, (2,)), (0, 2, (0,)))
        self.check(game, 0, {0: 1, 1: 2, 2: 0}, {0: [2], 1: [1], 2: [0]})

    def test_a_lesser_crown_does_not_end_the_count(self):
        game = ((0, 5, (1,)), (0, 4, (2,)), (0, 5, (3,)), (0, 0, (3,)))
        self.check(game, 0, {0: 1, 1: 2, 2: 3, 3: 3}, {0: [2], 1: [1], 2: [1], 3: [0]})

    def test_a_greater_feared_crown_ends_the_count_too(self):
        game = ((0, 1, (1,)), (0, 3, (2,)), (0, 1, (3,)), (0, 0, (3,)))
        self.check(game, 0, {0: 1, 1: 2, 2: 3, 3: 3}, {0: [1, 1], 1: [0, 1], 2: [1, 0], 3: [0, 0]})

    def test_a_feared_crown_that_is_not_held_has_its_number_too(self):
        self.check(((0, 2, (0,)), (1, 7, (0,)), (0, 3, (0,))), 0, {0: 0}, {0: [0, 0]})

    def test_no_feared_crowns(self):
        self.check(((0, 2, (1,)), (1, 0, (0, 1))), 0, {0: 1, 1: None}, {0: [], 1: []})

    def test_no_places(self):
        self.check(LINE, 0, {}, {})
        self.check(LINE, 1, {}, {})

    def test_as_many_as_there_are_places(self):
        game = tuple((place % 2, 1 if place else 0, (max(place - 1, 0),)) for place in range(24))
        plan = {place: max(place - 1, 0) if place % 2 == 0 else None for place in range(24)}
        self.check(game, 0, plan, {place: [place] for place in range(24)})
        ahead = tuple((place % 2, 1 if place < 23 else 0, (min(place + 1, 23),)) for place in range(24))
        plan = {place: min(place + 1, 23) if place % 2 == 0 else None for place in range(24)}
        self.check(ahead, 0, plan, {place: [23 - place] for place in range(24)})

    def test_lost_where_a_plan_keeps_and_does_not_win(self):
        self.check_lost(((0, 1, (0,)),), 0, {0: 0})
        self.check_lost(((1, 0, (0, 1)), (0, 1, (0,))), 0, {0: None, 1: 0})
        self.check_lost(((0, 8, (1,)), (0, 1, (1,))), 0, {0: 1, 1: 1})

    def test_lost_where_a_plan_does_not_keep(self):
        game = ((0, 0, (0, 1)), (1, 0, (0, 1)), (0, 0, (2,)))
        for plan in ({-1: None}, {3: None}, {0: 1}, {0: 2, 2: 2}, {1: None}, {0: -3}, {0: 0, 9: None}):
            self.check_lost(game, 0, plan)

    def test_every_plan_of_small_games(self):
        for size, crowns in ((1, (0, 1, 2, 3)), (2, (0, 1, 2, 3)), (3, (0, 1))):
            for game in games_of(size, crowns):
                for hand in (0, 1):
                    for plan in plans_of(game, hand):
                        self.check_by_the_point(game, hand, plan)

    def test_wide_games(self):
        source = random.Random(9)
        won = 0
        for _ in range(3000):
            game = seeded_game(source, source.randint(3, 24), range(5), 2)
            for hand in (0, 1):
                plan = {place: source.choice(ways) if owner == hand else None
                        for place, (owner, _, ways) in enumerate(game)}
                won += self.check_by_the_point(game, hand, plan)
        self.assertGreater(won, 100)

    def test_wide_games_that_go_down(self):
        # Places go to later ones alone, and the last one stays and is the hand's, so every plan of all places wins.
        source = random.Random(10)
        for _ in range(300):
            size = source.randint(2, 24)
            places = []
            for place in range(size - 1):
                later = range(place + 1, min(place + 6, size))
                ways = tuple(sorted(source.sample(later, source.randint(1, len(later)))))
                places.append((source.randint(0, 1), source.randint(0, 7), ways))
            for hand in (0, 1):
                game = tuple(places) + ((0, hand, (size - 1,)),)
                plan = {place: source.choice(ways) if owner == hand else None
                        for place, (owner, _, ways) in enumerate(game)}
                self.assertTrue(self.check_by_the_point(game, hand, plan))

    def check_by_the_point(self, game, hand, plan):
        if wins_by_the_point(game, hand, plan):
            told = paper(game, hand, plan)
            self.assertEqual(told, paper_by_the_point(game, hand, plan))
            self.assertIs(shows(game, hand, plan, told), True)
            return True
        with self.assertRaises(Lost):
            paper(game, hand, plan)
        return False

    def test_lists_of_its_own(self):
        told = paper(LINE, 0, LINE_PLAN)
        self.assertIs(type(told), dict)
        self.assertEqual(len({id(numbers) for numbers in told.values()}), len(LINE))
        for numbers in told.values():
            self.assertIs(type(numbers), list)
            numbers.clear()
        told.clear()
        self.assertEqual(paper(LINE, 0, LINE_PLAN)[0], [0, 2])
        self.assertEqual(LINE_PLAN, {0: 1, 1: 2, 2: 3, 3: 4, 4: 5, 5: 6, 6: 6})


class ShowsTest(unittest.TestCase):
    def check(self, game, hand, plan, given, answer):
        for asked, owner in ((game, hand), (exchanged(game), 1 - hand)):
            before = (dict(plan), copy.deepcopy(given))
            self.assertIs(shows(asked, owner, plan, given), answer)
            self.assertEqual((plan, given), before)

    def test_its_own_paper(self):
        self.check(LINE, 0, LINE_PLAN, paper(LINE, 0, LINE_PLAN), True)

    def test_one_too_small_at_a_place_with_the_feared_crown(self):
        given = paper(LINE, 0, LINE_PLAN)
        for place, at in ((0, 1), (2, 1), (4, 1), (5, 0)):
            given[place][at] -= 1
            self.check(LINE, 0, LINE_PLAN, given, False)
            given[place][at] += 1
        self.check(LINE, 0, LINE_PLAN, given, True)

    def test_one_too_small_at_a_place_with_a_lesser_crown(self):
        given = paper(LINE, 0, LINE_PLAN)
        given[1][1] -= 1
        self.check(LINE, 0, LINE_PLAN, given, False)

    def test_less_where_the_crown_is_the_places_own(self):
        game = ((0, 1, (1,)), (0, 0, (1,)))
        for first, second in itertools.product(range(4), repeat=2):
            self.check(game, 0, {0: 1, 1: 1}, {0: [first], 1: [second]}, second < first)

    def test_not_greater_where_the_crown_is_greater_than_the_places_own(self):
        game = ((0, 0, (1,)), (0, 1, (2,)), (0, 2, (2,)))
        for first, second in itertools.product(range(1, 4), repeat=2):
            self.check(game, 0, {0: 1, 1: 2, 2: 2}, {0: [first], 1: [second], 2: [0]}, second <= first)

    def test_a_feared_crown_below_the_places_own_binds_nothing(self):
        game = ((0, 2, (1,)), (0, 1, (0,)))
        for first in (0, 1, 5, 1000):
            for second in (0, 1, 5, 1000):
                self.check(game, 0, {0: 1, 1: 0}, {0: [first], 1: [second]}, first < second)
        game = ((0, 3, (1,)), (0, 1, (2,)), (0, 4, (0,)))
        self.check(game, 0, {0: 1, 1: 2, 2: 0}, {0: [0, 2], 1: [9, 1], 2: [8, 0]}, True)

    def test_greater_than_need_be(self):
        given = {place: [number * 3 + 400 for number in numbers] for place, numbers in
                 paper(LINE, 0, LINE_PLAN).items()}
        self.check(LINE, 0, LINE_PLAN, given, True)

    def test_numbers_of_a_thousand(self):
        game = ((0, 0, (1,)), (1, 1, (2,)), (0, 0, (2,)))
        plan = {0: 1, 1: None, 2: 2}
        self.check(game, 0, plan, {0: [1000], 1: [1000], 2: [999]}, True)
        self.check(game, 0, plan, {0: [1000], 1: [1000], 2: [1000]}, False)
        self.check(game, 0, plan, {0: [999], 1: [1000], 2: [999]}, False)

    def test_each_next_place_of_the_other_hand(self):
        game = ((1, 1, (1, 2)), (0, 0, (1,)), (0, 0, (2,)))
        plan = {0: None, 1: 1, 2: 2}
        self.check(game, 0, plan, {0: [2], 1: [1], 2: [1]}, True)
        self.check(game, 0, plan, {0: [2], 1: [2], 2: [1]}, False)
        self.check(game, 0, plan, {0: [2], 1: [1], 2: [2]}, False)

    def test_only_the_plans_step_at_the_hands_places(self):
        game = ((0, 1, (1, 2)), (0, 0, (1,)), (0, 0, (2,)))
        given = {0: [2], 1: [1], 2: [7]}
        self.check(game, 0, {0: 1, 1: 1, 2: 2}, given, True)
        self.check(game, 0, {0: 2, 1: 1, 2: 2}, given, False)

    def test_no_feared_crowns(self):
        self.check(((0, 2, (1,)), (1, 0, (0, 1))), 0, {0: 1, 1: None}, {0: [], 1: []}, True)

    def test_no_places(self):
        for hand in (0, 1):
            self.check(LINE, hand, {}, {}, True)

    def test_a_plan_that_does_not_keep_is_shown_by_none(self):
        game = ((0, 0, (0, 1)), (1, 0, (0, 1)), (0, 0, (2,)))
        for plan in ({-1: None}, {3: None}, {0: 1}, {0: 2, 2: 2}, {1: None}, {0: -3}, {0: 0, 9: None}):
            self.check(game, 0, plan, {key: [] for key in plan}, False)
        feared_too = ((0, 0, (0, 1)), (1, 1, (0,)), (0, 0, (2,)))
        self.check(feared_too, 0, {0: 1}, {0: [0]}, False)
        self.check(feared_too, 0, {0: 2, 2: 2}, {0: [5], 2: [0]}, False)

    def test_a_plan_wins_just_where_some_paper_shows_it(self):
        for size, crowns in ((1, (0, 1, 2)), (2, (0, 1, 2))):
            for game in games_of(size, crowns):
                for hand in (0, 1):
                    rows = [list(row) for row in itertools.product(range(size + 1), repeat=len(feared(game, hand)))]
                    for plan in plans_of(game, hand):
                        answers = []
                        for given in itertools.product(rows, repeat=len(plan)):
                            told = dict(zip(plan, given))
                            answers.append(shows(game, hand, plan, told))
                            self.assertIs(answers[-1], shows_by_the_point(game, hand, plan, told))
                        self.assertIs(any(answers), wins(game, hand, plan))

    def test_wide_games(self):
        source = random.Random(11)
        answers = set()
        for _ in range(4000):
            game = seeded_game(source, source.randint(2, 6), range(4), 2)
            for hand in (0, 1):
                plan = seeded_plan(source, game, hand)
                many = len(feared(game, hand))
                given = {key: [source.choice((0, 0, 1, 2)) for _ in range(many)] for key in plan}
                if wins(game, hand, plan) and plan and many:
                    given = paper(game, hand, plan)
                    given[source.choice(list(plan))][source.randrange(many)] += source.choice((0, 1, 1))
                answers.add(shows(game, hand, plan, given))
                self.assertIs(shows(game, hand, plan, given), shows_by_the_point(game, hand, plan, given))
        self.assertEqual(answers, {True, False})


class WideTest(unittest.TestCase):
    """A game of 24 places with crowns all unlike, and of thirty figures."""

    def test_all_functions(self):
        for hand in (0, 1):
            plan = {place: min(place + 1, 23) if place % 2 == hand else None for place in range(24)}
            self.assertIs(keeps(WIDE, hand, plan), True)
            self.assertIs(wins(WIDE, hand, plan), wins_by_the_point(WIDE, hand, plan))
            held = {place: 0 if place % 2 == hand else None for place in range(24)}
            self.assertIs(wins(WIDE, hand, held), wins_by_the_point(WIDE, hand, held))

    def test_a_plan_that_wins(self):
        # The last place stays; each other place goes on to any later one.
        game = tuple(
            (place % 2, 10 ** 29 + (place * 7) % 24, tuple(range(min(place + 1, 23), 24))) for place in range(24)
        )
        for hand in (0, 1):
            last = ((0, 10 ** 29 + 24 + hand, (23,)),)
            plan = {place: min(place + 1, 23) if owner == hand else None
                    for place, (owner, _, _) in enumerate(game[:23] + last)}
            told = paper(game[:23] + last, hand, plan)
            self.assertEqual(told, paper_by_the_point(game[:23] + last, hand, plan))
            self.assertTrue(shows(game[:23] + last, hand, plan, told))


if __name__ == "__main__":
    unittest.main()
