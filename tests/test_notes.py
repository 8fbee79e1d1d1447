import random
import unittest

from crownwalk.errors import NoNote, NoPlace, TooMany, Twice, WalkError
from crownwalk.games import made
from crownwalk.notes import read, shown

EXAMPLE = "0 3: 0 1; 1 2: 0"
EXAMPLE_GAME = ((0, 3, (0, 1)), (1, 2, (0,)))
THIRTY = "9" * 30
THIRTY_ONE = "1" + "0" * 30


class ShownTest(unittest.TestCase):
    def test_the_example(self):
        self.assertEqual(shown(EXAMPLE_GAME), EXAMPLE)

    def test_one_place(self):
        self.assertEqual(shown(((1, 0, (0,)),)), "1 0: 0")

    def test_a_crown_of_thirty_figures(self):
        self.assertEqual(shown(((0, int(THIRTY), (0,)),)), f"0 {THIRTY}: 0")

    def test_ways_of_two_figures(self):
        game = made([(0, place, [23, 10, 0]) for place in range(24)])
        self.assertEqual(shown(game), "; ".join(f"0 {place}: 0 10 23" for place in range(24)))


class ReadTest(unittest.TestCase):
    def refuse(self, error, text):
        with self.subTest(text=text):
            with self.assertRaises(WalkError) as caught:
                read(text)
            self.assertIs(type(caught.exception), error)
            self.assertIsInstance(caught.exception, ValueError)

    def test_the_example(self):
        self.assertEqual(read(EXAMPLE), EXAMPLE_GAME)

    def test_ways_in_any_order(self):
        self.assertEqual(read("0 3: 1 0; 1 2: 0"), EXAMPLE_GAME)
        self.assertEqual(read("1 10: 2 0 1; 0 0: 1; 0 1: 2 1"), ((1, 10, (0, 1, 2)), (0, 0, (1,)), (0, 1, (1, 2))))

    def test_everything_is_a_tuple(self):
        game = read(EXAMPLE)
        self.assertIs(type(game), tuple)
        for place in game:
            self.assertIs(type(place), tuple)
            self.assertIs(type(place[2]), tuple)

    def test_a_game_shown_and_read_is_the_same(self):
        source = random.Random(15)
        for size in range(1, 25):
            for _ in range(20):
                game = tuple(
                    (
                        source.randint(0, 1),
                        source.randrange(10 ** source.randint(0, 30)),
                        tuple(sorted(source.sample(range(size), source.randint(1, size)))),
                    )
                    for _ in range(size)
                )
                self.assertEqual(read(shown(game)), game)

    def test_numbers_of_thirty_figures(self):
        self.assertEqual(read(f"0 {THIRTY}: 0"), ((0, int(THIRTY), (0,)),))
        self.assertEqual(read("0 1" + "0" * 29 + ": 0"), ((0, 10 ** 29, (0,)),))
        self.refuse(NoPlace, f"0 3: {THIRTY}")

    def test_numbers_of_more_than_thirty_figures(self):
        self.refuse(NoNote, f"0 {THIRTY_ONE}: 0")
        self.refuse(NoNote, f"0 3: {THIRTY_ONE}")
        self.refuse(NoNote, f"{THIRTY_ONE} 3: 0")
        self.refuse(NoNote, f"0 {'1' * 5000}: 0")

    def test_noughts_ahead(self):
        for text in ("00 3: 0", "01 3: 0", "0 03: 0", "0 00: 0", "0 3: 00", "0 3: 0 01; 1 2: 0"):
            self.refuse(NoNote, text)
        self.refuse(NoNote, "0 0" + THIRTY[1:] + ": 0")

    def test_nought_itself(self):
        self.assertEqual(read("0 0: 0"), ((0, 0, (0,)),))

    def test_missing_blanks(self):
        for text in ("03: 0", "0 3:0", "0 3:0 0", "0 3: 0;1 2: 0", "0 3: 0;1 2:0", "0 3 0", "0 3: 01; 1 2: 0"):
            self.refuse(NoNote, text)

    def test_doubled_blanks(self):
        for text in ("0  3: 0", "0 3:  0", "0 3: 0  1; 1 2: 0", "0 3: 0 1;  1 2: 0", "0 3: 0 1 ; 1 2: 0", "0 3 : 0"):
            self.refuse(NoNote, text)

    def test_blanks_at_either_end(self):
        for text in (" 0 3: 0", "0 3: 0 ", " " + EXAMPLE, EXAMPLE + " ", EXAMPLE + "\n", "\t" + EXAMPLE):
            self.refuse(NoNote, text)

    def test_signs_of_a_number(self):
        for text in ("+0 3: 0", "-0 3: 0", "0 +3: 0", "0 -3: 0", "0 3: +0", "0 3: -0", "0 3: -1"):
            self.refuse(NoNote, text)

    def test_other_signs(self):
        for text in ("0 3.0: 0", "0 1_0: 0", "0 0x1: 0", "0 a: 0", "x 3: 0", "0 3: a", "0 3: 0, 1", "0 3: 0~", "~"):
            self.refuse(NoNote, text)

    def test_figures_of_other_scripts(self):
        for text in ("0 \u0663: 0", "0 \u00b2: 0", "0 3: \uff10", "\u0660 3: 0", "0 3:\u00a00"):
            self.refuse(NoNote, text)

    def test_other_row_ends_and_blanks(self):
        for text in ("0\t3: 0", "0 3:\t0", "0 3: 0;\n1 2: 0", "0 3: 0\n1 2: 0", "0 3: 0\n; 1 2: 0"):
            self.refuse(NoNote, text)

    def test_empty_texts(self):
        for text in ("", " ", ";", "; ", ":", ": ", " : ", "; ; "):
            self.refuse(NoNote, text)

    def test_empty_places(self):
        for text in ("0 3: 0; ", "; 0 3: 0", "0 3: 0;", ";0 3: 0", "0 3: 0; ; 1 2: 0"):
            self.refuse(NoNote, text)

    def test_a_hand_that_is_not_0_or_1(self):
        for text in ("2 3: 0", "9 3: 0", "10 3: 0", "11 3: 0", "0 3: 0; 2 2: 0"):
            self.refuse(NoNote, text)

    def test_parts_missing_or_too_many(self):
        for text in ("3: 0", "0: 0", "0 : 0", " 3: 0", "0 3 4: 0", "0 3: 0: 0", "0 3:: 0", "0 3", "0", "0 3: 0 1: 0"):
            self.refuse(NoNote, text)

    def test_a_place_without_a_way(self):
        for text in ("0 3:", "0 3: ", "0 3:; 1 2: 0", "0 3: ; 1 2: 0", "0 3: 0; 1 2:", "0 3: 0; 1 2: "):
            self.refuse(NoNote, text)

    def test_24_and_25_places(self):
        self.assertEqual(read("; ".join(["0 0: 0"] * 24)), ((0, 0, (0,)),) * 24)
        self.refuse(TooMany, "; ".join(["0 0: 0"] * 25))

    def test_a_way_to_no_place(self):
        self.refuse(NoPlace, "0 3: 1")
        self.refuse(NoPlace, "0 3: 0 1; 1 2: 2")
        self.refuse(NoPlace, "; ".join(["0 0: 24"] * 24))

    def test_a_way_twice(self):
        self.refuse(Twice, "0 3: 0 0")
        self.refuse(Twice, "0 3: 0 1; 1 2: 1 0 1")

    def test_too_many_goes_ahead_of_the_rows(self):
        self.refuse(TooMany, "; ".join(["0 0: 99"] * 25))
        self.refuse(TooMany, "; ".join(["0 0: 0 0"] * 25))

    def test_the_first_wrong_row_decides(self):
        self.refuse(NoPlace, "0 3: 0 0 1")
        self.refuse(NoPlace, "0 3: 9; 1 2: 0 0")
        self.refuse(Twice, "0 3: 0 0; 1 2: 9")

    def test_no_note_goes_ahead_of_all(self):
        self.refuse(NoNote, "; ".join(["0 0: 0"] * 25 + ["0 0:"]))
        self.refuse(NoNote, "; ".join(["0 0: 99"] * 30 + ["2 0: 0"]))
        self.refuse(NoNote, "0 3: 9; 1 02: 0")
        self.refuse(NoNote, "0 3: 0 0; 1 2: 0 ")
        self.refuse(NoNote, f"0 3: 9 9; 1 {THIRTY_ONE}: 0")


if __name__ == "__main__":
    unittest.main()
