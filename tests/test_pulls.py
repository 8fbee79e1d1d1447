import itertools
import random
import unittest

from crownwalk.pulls import pull_steps, pulled

# Place 3 is a goal for hand 0; 1 comes first, then 0 of the other hand, then 2.
LADDER = ((1, 0, (1, 3)), (0, 0, (2, 3)), (0, 0, (0,)), (1, 0, (3,)))


def way_sets(size):
    """Every tuple of ways that a place can have."""
    return [ways for many in range(1, size + 1) for ways in itertools.combinations(range(size), many)]


def stages_by_the_point(game, hand, goals):
    """The stages as point [5] tells them: a list of the sets of places that are there, ahead of each stage."""
    there = [set(goals)]
    while True:
        fresh = set()
        for place, (owner, _, ways) in enumerate(game):
            reached = [way in there[-1] for way in ways]
            if place not in there[-1] and ((owner == hand and any(reached)) or (owner != hand and all(reached))):
                fresh.add(place)
        if not fresh:
            return there
        there.append(there[-1] | fresh)


def steps_by_the_point(game, hand, goals):
    there = stages_by_the_point(game, hand, goals)
    steps = {}
    for ahead, after in zip(there, there[1:]):
        for place in after - ahead:
            if game[place][0] == hand:
                steps[place] = min(way for way in game[place][2] if way in ahead)
    return steps


class PullsTest(unittest.TestCase):
    def check(self, game, hand, goals, places, steps):
        before = list(goals)
        self.assertEqual(pulled(game, hand, goals), places)
        self.assertEqual(pull_steps(game, hand, goals), steps)
        self.assertEqual(goals, before)

    def test_a_ladder_of_stages(self):
        self.check(LADDER, 0, [3], [0, 1, 2, 3], {1: 3, 2: 0})

    def test_the_other_hand(self):
        self.check(LADDER, 1, [3], [0, 1, 2, 3], {0: 3})

    def test_no_goals(self):
        for hand in (0, 1):
            self.check(LADDER, hand, [], [], {})

    def test_all_are_goals(self):
        self.check(LADDER, 0, [0, 1, 2, 3], [0, 1, 2, 3], {})

    def test_goals_twice_and_in_any_order(self):
        game = ((0, 0, (0,)), (1, 0, (0, 3)), (0, 0, (2,)), (0, 0, (3,)), (0, 0, (2, 4)))
        for goals in ([3, 0], [0, 3], [3, 3, 0], [0, 3, 0, 3]):
            self.check(game, 0, goals, [0, 1, 3], {})

    def test_the_other_hand_with_all_of_its_ways_there(self):
        self.check(((1, 0, (1, 2)), (0, 0, (1,)), (0, 0, (2,))), 0, [1, 2], [0, 1, 2], {})

    def test_the_other_hand_with_not_all_of_its_ways_there(self):
        self.check(((1, 0, (1, 2)), (0, 0, (1,)), (0, 0, (2,))), 0, [1], [1], {})

    def test_the_other_hand_with_a_way_to_itself(self):
        self.check(((1, 0, (0, 1)), (0, 0, (1,))), 0, [1], [1], {})

    def test_the_hand_with_one_of_its_ways_there(self):
        self.check(((1, 0, (1, 2)), (0, 0, (1,)), (0, 0, (2,))), 1, [2], [0, 2], {0: 2})

    def test_the_step_is_the_least_way_of_those_there(self):
        game = ((0, 0, (0, 1, 2, 3)), (0, 0, (1,)), (1, 0, (2,)), (0, 0, (3,)))
        self.check(game, 0, [3, 2], [0, 2, 3], {0: 2})

    def test_the_step_does_not_go_to_a_later_stage(self):
        # 0 and 1 are pulled too, but only after 2 is there.
        game = ((0, 0, (1,)), (0, 0, (2,)), (0, 0, (0, 1, 3)), (0, 0, (3,)))
        self.check(game, 0, [3], [0, 1, 2, 3], {0: 1, 1: 2, 2: 3})

    def test_the_step_does_not_go_to_the_same_stage(self):
        game = ((0, 0, (1, 2)), (0, 0, (0, 2)), (0, 0, (2,)))
        self.check(game, 0, [2], [0, 1, 2], {0: 2, 1: 2})

    def test_the_step_does_not_stay(self):
        self.check(((0, 0, (0, 1)), (1, 0, (1,))), 0, [1], [0, 1], {0: 1})

    def test_a_stage_is_found_before_any_of_it_is_there(self):
        # 1 comes with the first stage; 2 comes with the second, and so may go to 1 ahead of 3.
        game = ((0, 0, (0,)), (0, 0, (0,)), (0, 0, (1, 3)), (1, 0, (0,)))
        self.check(game, 0, [0], [0, 1, 2, 3], {1: 0, 2: 1})

    def test_no_step_for_a_goal(self):
        self.check(((0, 0, (0, 1)), (0, 0, (0,))), 0, [0], [0, 1], {1: 0})
        self.check(((0, 0, (0, 1)), (0, 0, (0,))), 0, [0, 1], [0, 1], {})

    def test_no_step_for_the_other_hand(self):
        self.check(((1, 0, (1,)), (1, 0, (1,))), 0, [1], [0, 1], {})

    def test_24_stages(self):
        game = tuple((place % 2, 0, (max(place - 1, 0),)) for place in range(24))
        self.check(game, 0, [0], list(range(24)), {place: place - 1 for place in range(2, 24, 2)})
        self.check(game, 1, [0], list(range(24)), {place: place - 1 for place in range(1, 24, 2)})

    def test_crowns_decide_nothing(self):
        crowned = tuple((owner, 10 ** 29 + place, ways) for place, (owner, _, ways) in enumerate(LADDER))
        self.check(crowned, 0, [3], [0, 1, 2, 3], {1: 3, 2: 0})

    def test_every_game_of_up_to_three_places(self):
        for size in (1, 2, 3):
            places = [(hand, 0, ways) for hand in (0, 1) for ways in way_sets(size)]
            goal_lists = [[]] + [list(goals) for goals in way_sets(size)]
            for game in itertools.product(places, repeat=size):
                for hand in (0, 1):
                    for goals in goal_lists:
                        self.check_by_the_point(game, hand, goals)

    def test_wide_games(self):
        source = random.Random(5)
        for _ in range(1000):
            size = source.randint(4, 24)
            game = tuple(
                (source.randint(0, 1), 0, tuple(sorted(source.sample(range(size), source.randint(1, 3)))))
                for _ in range(size)
            )
            goals = [source.randrange(size) for _ in range(source.randint(0, 4))]
            for hand in (0, 1):
                self.check_by_the_point(game, hand, goals)

    def check_by_the_point(self, game, hand, goals):
        places = sorted(stages_by_the_point(game, hand, goals)[-1])
        self.check(game, hand, goals, places, steps_by_the_point(game, hand, goals))

    def test_what_is_handed_out_may_be_changed(self):
        goals = [3]
        places = pulled(LADDER, 0, goals)
        steps = pull_steps(LADDER, 0, goals)
        self.assertIs(type(places), list)
        self.assertIs(type(steps), dict)
        places.clear()
        steps.clear()
        self.check(LADDER, 0, goals, [0, 1, 2, 3], {1: 3, 2: 0})

    def test_pulled_hands_out_a_list_of_its_own(self):
        goals = [0]
        pulled(((0, 0, (0,)),), 0, goals).append(7)
        self.assertEqual(goals, [0])


if __name__ == "__main__":
    unittest.main()
