import copy
import itertools
import random
import unittest

from crownwalk.errors import NoPlace, Stuck, TooMany, Twice, WalkError
from crownwalk.games import MOST, classes, folded, made, turned

THIRTY_NINES = 10 ** 30 - 1


def loops(count):
    """Rows of so many places, each with the one way to itself."""
    return [(0, 0, [place]) for place in range(count)]


def ring(crowns):
    """A game that goes round, all of hand 0."""
    return tuple((0, crown, ((place + 1) % len(crowns),)) for place, crown in enumerate(crowns))


def way_sets(size):
    """Every tuple of ways that a place can have."""
    return [ways for many in range(1, size + 1) for ways in itertools.combinations(range(size), many)]


def small_games(size, crowns):
    """Every game of so many places with these crowns."""
    places = list(itertools.product((0, 1), crowns, way_sets(size)))
    return itertools.product(places, repeat=size)


def wide_games(count):
    """Games of many places, few hands and crowns; the same ones each time."""
    source = random.Random(4)
    for _ in range(count):
        size = source.randint(4, 24)
        yield tuple(
            (
                source.randint(0, 1) if source.random() < 0.3 else 0,
                source.randint(0, 1) if source.random() < 0.3 else 0,
                tuple(sorted(source.sample(range(size), source.randint(1, 2)))),
            )
            for _ in range(size)
        )


def classes_by_pairs(game):
    """The classes as point [4] tells them: pairs of places are parted as long as any more can be."""
    size = len(game)
    parted = [[game[p][:2] != game[q][:2] for q in range(size)] for p in range(size)]

    def leads_off(p, q):
        return any(all(parted[way][other] for other in game[q][2]) for way in game[p][2])

    more = True
    while more:
        more = False
        for p in range(size):
            for q in range(size):
                if not parted[p][q] and (leads_off(p, q) or leads_off(q, p)):
                    parted[p][q] = parted[q][p] = True
                    more = True
    firsts = [next(q for q in range(size) if not parted[p][q]) for p in range(size)]
    order = sorted(set(firsts))
    return [order.index(first) for first in firsts]


class MadeTest(unittest.TestCase):
    def refuse(self, error, rows):
        before = copy.deepcopy(rows)
        with self.assertRaises(WalkError) as caught:
            made(rows)
        self.assertIs(type(caught.exception), error)
        self.assertIsInstance(caught.exception, ValueError)
        self.assertEqual(rows, before)

    def test_most(self):
        self.assertEqual(MOST, 24)

    def test_an_ordinary_game(self):
        self.assertEqual(made([(0, 3, [0, 1]), (1, 2, [0])]), ((0, 3, (0, 1)), (1, 2, (0,))))

    def test_ways_come_out_rising(self):
        rows = [(0, 1, [2, 0, 1]), (1, 0, [1, 0]), (1, 7, [2, 1])]
        self.assertEqual(made(rows), ((0, 1, (0, 1, 2)), (1, 0, (0, 1)), (1, 7, (1, 2))))

    def test_everything_is_a_tuple(self):
        game = made([(0, 1, [1, 0]), (1, 0, [0])])
        self.assertIs(type(game), tuple)
        for place in game:
            self.assertIs(type(place), tuple)
            self.assertIs(type(place[2]), tuple)

    def test_the_rows_stay_as_they_were(self):
        rows = [(0, 1, [2, 0, 1]), (1, 0, [1, 0]), (1, 7, [2, 1])]
        before = copy.deepcopy(rows)
        game = made(rows)
        self.assertEqual(rows, before)
        rows[0][2].append(5)
        rows.pop()
        self.assertEqual(game, ((0, 1, (0, 1, 2)), (1, 0, (0, 1)), (1, 7, (1, 2))))

    def test_crowns_of_thirty_figures(self):
        rows = [(0, THIRTY_NINES, [1]), (1, 0, [0])]
        self.assertEqual(made(rows), ((0, THIRTY_NINES, (1,)), (1, 0, (0,))))

    def test_crowns_somewhat_beyond_are_not_refused(self):
        self.assertEqual(made([(0, THIRTY_NINES + 1, [0])]), ((0, THIRTY_NINES + 1, (0,)),))

    def test_one_row_and_24_rows(self):
        self.assertEqual(made(loops(1)), ((0, 0, (0,)),))
        self.assertEqual(made(loops(24)), tuple((0, 0, (place,)) for place in range(24)))

    def test_all_ways_of_24_places(self):
        rows = [(place % 2, place, list(range(23, -1, -1))) for place in range(24)]
        self.assertEqual(made(rows), tuple((place % 2, place, tuple(range(24))) for place in range(24)))

    def test_no_row_and_25_rows(self):
        self.refuse(TooMany, [])
        self.refuse(TooMany, loops(25))
        self.refuse(TooMany, loops(60))

    def test_a_row_without_a_way(self):
        self.refuse(Stuck, [(0, 0, [])])
        self.refuse(Stuck, [(0, 0, [0]), (1, 0, [])])

    def test_a_way_to_no_place(self):
        self.refuse(NoPlace, [(0, 0, [-1])])
        self.refuse(NoPlace, [(0, 0, [1])])
        self.refuse(NoPlace, [(0, 0, [0, 1]), (0, 0, [0, 2])])
        self.refuse(NoPlace, [(0, 0, [1, -1]), (0, 0, [0])])
        self.refuse(NoPlace, [(0, 0, [24])] + loops(24)[1:])

    def test_a_way_twice(self):
        self.refuse(Twice, [(0, 0, [0, 0])])
        self.refuse(Twice, [(0, 0, [1]), (0, 0, [1, 0, 1])])

    def test_too_many_goes_ahead_of_all(self):
        self.refuse(TooMany, [(0, 0, [])] * 25)
        self.refuse(TooMany, [(0, 0, [99])] * 25)
        self.refuse(TooMany, [(0, 0, [0, 0])] * 25)

    def test_no_place_goes_ahead_of_twice_in_a_row(self):
        self.refuse(NoPlace, [(0, 0, [0, 0, 1])])
        self.refuse(NoPlace, [(0, 0, [5, 5])])
        self.refuse(NoPlace, [(0, 0, [-1, 0, 0])])

    def test_the_first_wrong_row_decides(self):
        wrong = [((0, 0, []), Stuck), ((0, 0, [9]), NoPlace), ((0, 0, [1, 1]), Twice)]
        for order in itertools.permutations(wrong):
            rows = [(1, 1, [0])] + [row for row, error in order]
            self.refuse(order[0][1], rows)


class TurnedTest(unittest.TestCase):
    def test_hands_exchanged_and_crowns_one_greater(self):
        game = ((0, 3, (0, 1)), (1, 2, (0,)))
        self.assertEqual(turned(game), ((1, 4, (0, 1)), (0, 3, (0,))))

    def test_turned_twice(self):
        game = ((0, 3, (0, 1)), (1, 2, (0,)), (1, 0, (0, 1, 2)))
        self.assertEqual(turned(turned(game)), ((0, 5, (0, 1)), (1, 4, (0,)), (1, 2, (0, 1, 2))))

    def test_a_great_crown(self):
        self.assertEqual(turned(((1, THIRTY_NINES, (0,)),)), ((0, THIRTY_NINES + 1, (0,)),))

    def test_somewhat_more_places_are_not_refused(self):
        game = tuple((0, 0, (place,)) for place in range(25))
        self.assertEqual(turned(game), tuple((1, 1, (place,)) for place in range(25)))


class ClassesTest(unittest.TestCase):
    def check(self, game, numbers):
        self.assertEqual(classes(game), numbers)
        self.assertEqual(classes_by_pairs(game), numbers)

    def test_parted_by_hand(self):
        self.check(((0, 1, (0, 1)), (1, 1, (0, 1))), [0, 1])

    def test_parted_by_crown(self):
        self.check(((0, 1, (0, 1)), (0, 3, (0, 1))), [0, 1])

    def test_parted_only_by_ways(self):
        self.check(((0, 0, (2,)), (0, 0, (3,)), (0, 1, (2,)), (1, 1, (3,))), [0, 1, 2, 3])

    def test_parted_by_one_way_more(self):
        self.check(((0, 0, (0,)), (0, 0, (0, 2)), (0, 1, (2,))), [0, 1, 2])

    def test_parted_over_several_steps(self):
        # A line to a crown: each place is parted from those ahead of it one step later.
        size = 24
        line = tuple((0, 1 if place == size - 1 else 0, (min(place + 1, size - 1),)) for place in range(size))
        self.check(line, list(range(size)))

    def test_all_alike(self):
        self.check(ring([5] * 24), [0] * 24)
        self.check(((1, 2, (0, 1, 2)), (1, 2, (0,)), (1, 2, (1, 2))), [0, 0, 0])

    def test_no_two_alike(self):
        self.check(ring([0, 1, 2, 3]), [0, 1, 2, 3])
        self.check(((0, 7, (0,)),), [0])

    def test_a_ring_that_comes_again(self):
        self.check(ring([0, 1, 0, 1, 0, 1]), [0, 1, 0, 1, 0, 1])
        self.check(ring([0, 0, 1, 0, 0, 1]), [0, 1, 2, 0, 1, 2])

    def test_how_many_ways_to_a_class_does_not_count(self):
        self.check(((0, 0, (2, 3)), (0, 0, (3,)), (0, 1, (2,)), (0, 1, (3,))), [0, 0, 1, 1])

    def test_numbers_in_the_order_of_the_first_places(self):
        self.check(((1, 9, (1,)), (0, 4, (0,)), (1, 9, (1,)), (0, 0, (0,)), (0, 4, (2,))), [0, 1, 0, 2, 1])

    def test_every_game_of_up_to_three_places(self):
        for size, crowns in ((1, (0, 1)), (2, (0, 1, 2)), (3, (0, 1))):
            for game in small_games(size, crowns):
                self.assertEqual(classes(game), classes_by_pairs(game), game)

    def test_wide_games(self):
        for game in wide_games(300):
            self.assertEqual(classes(game), classes_by_pairs(game), game)

    def test_what_is_handed_out_may_be_changed(self):
        game = ring([0, 1, 0, 1])
        numbers = classes(game)
        numbers.clear()
        self.assertEqual(classes(game), [0, 1, 0, 1])
        self.assertIs(type(numbers), list)


class FoldedTest(unittest.TestCase):
    def test_all_alike(self):
        self.assertEqual(folded(ring([5] * 24)), ((0, 5, (0,)),))

    def test_no_two_alike(self):
        game = ((0, 3, (0, 1)), (1, 2, (0,)), (1, 4, (0, 1, 2)))
        self.assertEqual(folded(game), game)

    def test_a_ring_that_comes_again(self):
        self.assertEqual(folded(ring([0, 0, 1, 0, 0, 1])), ((0, 0, (1,)), (0, 0, (2,)), (0, 1, (0,))))

    def test_ways_are_each_once_and_rising(self):
        # Place 0 goes to classes 1, 2 and 0, told by the ways 2, 3, 4 and 5 in another order than rising.
        game = ((0, 0, (2, 3, 4, 5)), (1, 0, (1,)), (1, 1, (2,)), (1, 0, (3,)), (1, 1, (4,)), (0, 0, (2, 3, 4, 5)))
        self.assertEqual(classes(game), [0, 1, 2, 1, 2, 0])
        self.assertEqual(folded(game), ((0, 0, (0, 1, 2)), (1, 0, (1,)), (1, 1, (2,))))

    def test_a_class_keeps_its_hand_and_crown(self):
        game = ((1, 9, (1,)), (0, 4, (0,)), (1, 9, (1,)), (0, 0, (0,)), (0, 4, (2,)))
        self.assertEqual(folded(game), ((1, 9, (1,)), (0, 4, (0,)), (0, 0, (0,))))

    def test_is_told_by_the_classes(self):
        for game in itertools.chain(small_games(2, (0, 1)), wide_games(300)):
            numbers = classes(game)
            told = folded(game)
            self.assertIs(type(told), tuple)
            self.assertEqual(len(told), max(numbers) + 1)
            for place, number in enumerate(numbers):
                ways = tuple(sorted({numbers[way] for way in game[place][2]}))
                self.assertEqual(told[number], (game[place][0], game[place][1], ways))
            self.assertEqual(folded(told), told)

    def test_somewhat_more_places_are_not_refused(self):
        game = tuple((0, place, (place,)) for place in range(25))
        self.assertEqual(folded(game), game)


if __name__ == "__main__":
    unittest.main()
