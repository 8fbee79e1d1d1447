import itertools
import random
import unittest

from crownwalk.games import classes, folded, turned
from crownwalk.plans import keeps, paper, shows, wins
from crownwalk.solving import plan_of, solved
from crownwalk.walks import walked, winner
from readings import games_of, seeded_game, wins_by_the_point, won_by_the_point

# The walker is at a fork of hand 0, of hand 1, at an even end and at an odd end.
FORKS = ((0, 1, (2, 3)), (1, 2, (2, 3)), (0, 4, (2,)), (1, 3, (3,)))


class SolvingCase(unittest.TestCase):
    def check_told(self, game):
        """Each hand's told plan holds just the places told for it, has what it must at each, and wins."""
        hands = solved(game)
        self.assertIs(type(hands), list)
        self.assertEqual(len(hands), len(game))
        for hand in (0, 1):
            plan = plan_of(game, hand)
            self.assertIs(type(plan), dict)
            self.assertEqual(sorted(plan), [place for place in range(len(game)) if hands[place] == hand])
            for place, value in plan.items():
                if game[place][0] == hand:
                    self.assertIn(value, game[place][2])
                else:
                    self.assertIsNone(value)
            self.assertTrue(wins(game, hand, plan), (game, hand, plan))
            self.assertTrue(wins_by_the_point(game, hand, plan), (game, hand, plan))
        return hands

    def check(self, game, hands):
        self.assertEqual(self.check_told(game), hands)
        self.assertEqual(self.check_told(turned(game)), [1 - hand for hand in hands])


class OrdinaryTest(SolvingCase):
    def test_one_place(self):
        for crown in (0, 1, 2, 3, 10 ** 29, 10 ** 30 - 1):
            for owner in (0, 1):
                game = ((owner, crown, (0,)),)
                self.check(game, [crown % 2])
                self.assertEqual(plan_of(game, crown % 2), {0: 0 if owner == crown % 2 else None})
                self.assertEqual(plan_of(game, 1 - crown % 2), {})

    def test_forks(self):
        self.check(FORKS, [0, 1, 0, 1])
        self.assertEqual(plan_of(FORKS, 0), {0: 2, 2: 2})
        self.assertEqual(plan_of(FORKS, 1), {1: 3, 3: 3})

    def test_one_hand_wins_all(self):
        game = ((1, 1, (1,)), (0, 4, (0, 2)), (1, 3, (0, 1)))
        self.check(game, [0, 0, 0])
        self.assertEqual(plan_of(game, 1), {})

    def test_a_greater_crown_that_the_hand_can_be_kept_from(self):
        # Place 0 would be hand 0's by its 6, but hand 1 goes round by 1 and 2.
        game = ((0, 6, (1,)), (1, 0, (0, 2)), (0, 3, (1,)))
        self.check(game, [1, 1, 1])
        self.check(((0, 6, (1,)), (1, 0, (0,)), (0, 3, (1,))), [0, 0, 0])

    def test_a_greater_crown_that_only_comes_once(self):
        self.check(((0, 8, (1,)), (1, 6, (2,)), (0, 3, (3,)), (1, 2, (2,))), [1, 1, 1, 1])

    def test_the_greatest_crown_of_a_round_decides(self):
        for crowns in itertools.product(range(4), repeat=3):
            for owners in itertools.product((0, 1), repeat=3):
                game = tuple((owners[place], crowns[place], ((place + 1) % 3,)) for place in range(3))
                self.check(game, [max(crowns) % 2] * 3)

    def test_a_hand_gives_up_a_great_crown_for_a_round_of_its_own(self):
        # Hand 0 would like the 8, but each walk to it goes on to the 9; it stays at 1 instead.
        game = ((0, 8, (2,)), (0, 2, (0, 1)), (1, 9, (0, 2)))
        self.check(game, [1, 0, 1])

    def test_layers(self):
        # Each turn of the looking finds a place of one hand more.
        game = tuple(
            (place % 2, 23 - place, (place, place + 1) if place < 23 else (23,)) for place in range(24)
        )
        self.check_told(game)
        self.check_told(turned(game))


class SmallTest(SolvingCase):
    def test_told_plans_of_every_game_of_up_to_three_places(self):
        for size, crowns in ((1, range(4)), (2, range(4)), (3, range(3))):
            for game in games_of(size, crowns):
                hands = self.check_told(game)
                self.assertEqual(solved(turned(game)), [1 - hand for hand in hands])
                smaller = solved(folded(game))
                self.assertEqual([smaller[number] for number in classes(game)], hands)

    def test_by_a_look_through_all_plans(self):
        for size, crowns in ((1, range(4)), (2, range(4)), (3, range(3))):
            for game in games_of(size, crowns):
                self.check_by_the_point(game)

    def test_seeded_games_by_a_look_through_all_plans(self):
        source = random.Random(13)
        for _ in range(600):
            self.check_by_the_point(seeded_game(source, 3, range(6)))
        for _ in range(300):
            self.check_by_the_point(seeded_game(source, 4, range(6), 2))
        for _ in range(60):
            self.check_by_the_point(seeded_game(source, 5, range(6), 2))

    def check_by_the_point(self, game):
        hands = solved(game)
        for hand in (0, 1):
            won = [place for place in range(len(game)) if hands[place] == hand]
            self.assertEqual(sorted(won_by_the_point(game, hand)), won, (game, hand))


class WideTest(SolvingCase):
    def check_wide(self, game):
        hands = self.check_told(game)
        self.assertEqual(self.check_told(turned(game)), [1 - hand for hand in hands])
        smaller = self.check_told(folded(game))
        self.assertEqual([smaller[number] for number in classes(game)], hands)

    def test_seeded_games(self):
        source = random.Random(14)
        won = [0, 0]
        for _ in range(400):
            game = seeded_game(source, source.randint(4, 24), range(source.randint(1, 12)), source.randint(1, 4))
            self.check_wide(game)
            for hand in solved(game):
                won[hand] += 1
        self.assertGreater(min(won), 500)

    def test_games_of_24_places_with_crowns_all_unlike(self):
        source = random.Random(15)
        for most_ways in (1, 2, 3, 5, 24):
            for _ in range(20):
                crowns = [10 ** 29 + crown for crown in source.sample(range(10 ** 6), 24)]
                game = seeded_game(source, 24, (0,), most_ways)
                self.check_wide(tuple((owner, crown, ways) for (owner, _, ways), crown in zip(game, crowns)))

    def test_games_of_24_places_with_all_ways(self):
        for shift in range(5):
            game = tuple(((place + shift) // 2 % 2, 10 ** 29 + place, tuple(range(24))) for place in range(24))
            self.check_wide(game)

    def test_papers_of_told_plans(self):
        source = random.Random(16)
        for _ in range(60):
            game = seeded_game(source, 24, range(24))
            for hand in (0, 1):
                plan = plan_of(game, hand)
                self.assertTrue(keeps(game, hand, plan))
                self.assertTrue(shows(game, hand, plan, paper(game, hand, plan)))

    def test_walks_that_follow_both_told_plans(self):
        source = random.Random(17)
        for _ in range(100):
            game = seeded_game(source, 24, range(12))
            hands = solved(game)
            for hand in (0, 1):
                plan = plan_of(game, hand)
                steps = [source.choice(ways) if plan.get(place) is None else plan[place]
                         for place, (_, _, ways) in enumerate(game)]
                for start in plan:
                    self.assertEqual(winner(game, walked(game, steps, start)[1]), hand)
                    self.assertEqual(hands[start], hand)

    def test_places_somewhat_beyond_the_bound(self):
        source = random.Random(18)
        for _ in range(10):
            self.check_wide(seeded_game(source, 40, range(40)))


class HandedOutTest(SolvingCase):
    def test_what_is_handed_out_may_be_changed(self):
        hands = solved(FORKS)
        hands.reverse()
        hands.append(7)
        for hand in (0, 1):
            plan_of(FORKS, hand).clear()
        self.check(FORKS, [0, 1, 0, 1])

    def test_a_plan_for_each_who_asks(self):
        first = plan_of(FORKS, 0)
        second = plan_of(FORKS, 0)
        first[0] = 3
        self.assertEqual(second, {0: 2, 2: 2})


if __name__ == "__main__":
    unittest.main()
