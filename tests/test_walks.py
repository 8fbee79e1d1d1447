import itertools
import random
import unittest

from crownwalk.walks import walked, winner
from readings import seeded_game

# 0 goes to 2, 2 to 4, and 4, 1, 3 go round; 5 stays.
GAME = ((0, 7, (0, 2)), (1, 2, (3,)), (0, 0, (0, 4)), (1, 3, (1, 4)), (0, 4, (1,)), (0, 9, (5,)))
STEPS = [2, 3, 4, 4, 1, 5]


def walk_by_the_point(steps, start):
    """Point [11], from a walk that is long enough to go round again."""
    walk = [start]
    while len(walk) < 3 * len(steps) + 3:
        walk.append(steps[walk[-1]])
    again = set(walk[len(steps):])
    ahead = list(itertools.takewhile(lambda place: place not in again, walk))
    return ahead, walk[len(ahead):len(ahead) + len(again)]


class WalkedTest(unittest.TestCase):
    def check(self, game, steps, start, ahead, ring):
        before = list(steps)
        answer = walked(game, steps, start)
        self.assertIs(type(answer), tuple)
        self.assertEqual([type(part) for part in answer], [list, list])
        self.assertEqual(answer, (ahead, ring))
        self.assertEqual(steps, before)

    def test_a_start_ahead_of_the_ring(self):
        self.check(GAME, STEPS, 0, [0, 2], [4, 1, 3])
        self.check(GAME, STEPS, 2, [2], [4, 1, 3])

    def test_a_start_on_the_ring(self):
        self.check(GAME, STEPS, 4, [], [4, 1, 3])

    def test_the_ring_begins_with_the_first_place_that_the_walk_meets(self):
        self.check(GAME, STEPS, 1, [], [1, 3, 4])
        self.check(GAME, STEPS, 3, [], [3, 4, 1])
        # From 0 the ring of 1 and 2 is met at 2, from 3 at 1.
        game = ((0, 0, (2,)), (0, 0, (2,)), (0, 0, (1,)), (0, 0, (1,)))
        self.check(game, [2, 2, 1, 1], 0, [0], [2, 1])
        self.check(game, [2, 2, 1, 1], 3, [3], [1, 2])

    def test_a_ring_of_one_place(self):
        self.check(GAME, STEPS, 5, [], [5])
        self.check(((0, 0, (0,)),), [0], 0, [], [0])
        self.check(((0, 0, (1,)), (0, 0, (0, 1))), [1, 1], 0, [0], [1])

    def test_a_ring_of_all_places(self):
        game = tuple((place % 2, 10 ** 29 + place, ((place + 5) % 24,)) for place in range(24))
        steps = [(place + 5) % 24 for place in range(24)]
        for start in range(24):
            self.check(game, steps, start, [], [(start + 5 * step) % 24 for step in range(24)])

    def test_a_long_way_ahead(self):
        game = tuple((0, 0, (min(place + 1, 23),)) for place in range(24))
        self.check(game, [min(place + 1, 23) for place in range(24)], 0, list(range(23)), [23])

    def test_all_steps_of_small_sizes(self):
        for size in (1, 2, 3, 4):
            game = tuple((0, 0, tuple(range(size))) for _ in range(size))
            for steps in itertools.product(range(size), repeat=size):
                for start in range(size):
                    self.check(game, list(steps), start, *walk_by_the_point(steps, start))

    def test_wide_games(self):
        source = random.Random(12)
        for _ in range(500):
            game = seeded_game(source, source.randint(5, 24), range(9))
            steps = [source.choice(ways) for _, _, ways in game]
            for start in range(len(game)):
                self.check(game, steps, start, *walk_by_the_point(steps, start))

    def test_what_is_handed_out_may_be_changed(self):
        steps = list(STEPS)
        ahead, ring = walked(GAME, steps, 0)
        ahead.clear()
        ring.append(7)
        self.assertEqual(steps, STEPS)
        self.check(GAME, steps, 0, [0, 2], [4, 1, 3])


class WinnerTest(unittest.TestCase):
    def check(self, game, ring, hand):
        before = list(ring)
        self.assertEqual(winner(game, ring), hand)
        self.assertIs(type(winner(game, ring)), int)
        self.assertEqual(ring, before)

    def test_a_ring_of_one_place(self):
        for crown in (0, 1, 2, 3, 10 ** 29, 10 ** 29 + 1, 10 ** 30 - 1):
            for owner in (0, 1):
                self.check(((owner, crown, (0,)),), [0], crown % 2)

    def test_the_greatest_decides_wherever_it_stands(self):
        for crowns in itertools.product(range(5), repeat=3):
            game = tuple((place % 2, crown, ((place + 1) % 3,)) for place, crown in enumerate(crowns))
            for ring in ([0, 1, 2], [1, 2, 0], [2, 0, 1]):
                self.check(game, ring, max(crowns) % 2)

    def test_not_the_last_or_the_first(self):
        game = ((0, 1, (1,)), (0, 4, (2,)), (0, 3, (0,)))
        self.check(game, [0, 1, 2], 0)
        game = ((0, 2, (1,)), (0, 5, (2,)), (0, 4, (0,)))
        self.check(game, [0, 1, 2], 1)

    def test_crowns_off_the_ring_decide_nothing(self):
        game = ((0, 9, (1,)), (0, 2, (2,)), (1, 1, (1,)), (1, 7, (3,)))
        self.check(game, [1, 2], 0)
        self.check(game, [2, 1], 0)

    def test_neither_the_places_nor_the_hands_decide(self):
        # The greatest place of the ring has the least crown.
        game = ((1, 4, (3,)), (0, 9, (1,)), (0, 9, (2,)), (1, 1, (0,)))
        self.check(game, [0, 3], 0)
        self.check(game, [3, 0], 0)

    def test_the_ring_of_a_walk(self):
        self.check(GAME, walked(GAME, STEPS, 0)[1], 0)
        self.check(GAME, walked(GAME, STEPS, 5)[1], 1)

    def test_all_places(self):
        for most in (24, 25):
            game = tuple((0, 10 ** 29 + (most if place == 11 else place), ((place + 1) % 24,)) for place in range(24))
            self.check(game, list(range(24)), most % 2)


if __name__ == "__main__":
    unittest.main()
