"""starts, homes and counts: what the board says of its units, homes and sizes."""

import unittest

from tests.helper import BIG, BOARD, counts, homes, lines, on, read, run, starts

UNITS = lines(
    "power Reds", "power Blues", "power Golds",
    "land Albia Alb", "sea Borea Bor", "coast Corda Cor", "coast Delos Del north south", "coast Gallia Gal a b c d",
    "start Golds fleet Gal/d", "start Reds army Alb", "start Golds fleet Bor", "start Blues army Del",
    "start Reds fleet Cor",
)


class Starts(unittest.TestCase):
    def test_none(self):
        self.assertEqual(on("power Reds\nland Albia Alb\ncentre Alb Reds", starts()), [[0, 0]])

    def test_empty_board(self):
        self.assertEqual(run(starts()), [[0, 0]])

    def test_one(self):
        told = ("power Reds", "power Blues", "sea Borea Bor", "coast Delos Del north south")
        self.assertEqual(on(lines(*told, "start Blues fleet Borea"), starts()), [[0, 1, 1, 1, 0, 0]])
        self.assertEqual(on(lines(*told, "start Reds fleet Del/north"), starts()), [[0, 1, 0, 1, 1, 0]])
        self.assertEqual(on(lines(*told, "start Reds fleet Delos/south"), starts()), [[0, 1, 0, 1, 1, 1]])

    def test_an_army_is_at_the_shore_0(self):
        text = lines("power Reds", "coast Delos Del north south", "start Reds army Del")
        self.assertEqual(on(text, starts()), [[0, 1, 0, 0, 0, 0]])

    def test_several_in_the_order_told(self):
        self.assertEqual(on(UNITS, starts()),
                         [[0, 5, 2, 1, 4, 3, 0, 0, 0, 0, 2, 1, 1, 0, 1, 0, 3, 0, 0, 1, 2, 0]])
        self.assertEqual(on(BOARD, starts()), [[0, 2, 0, 0, 3, 0, 1, 1, 6, 3]])

    def test_the_most(self):
        told = [f"coast N{c}n S{c}s a b" for c in "abcdefghijklmnopqrstuvwx"]
        units = [f"start Reds fleet S{c}s/b" for c in "xwvutsrqponmlkjihgfedcba"]
        self.assertEqual(on(lines("power Reds", *told, *units), starts()),
                         [[0, 24] + [number for n in range(24) for number in (0, 1, 23 - n, 1)]])


class Homes(unittest.TestCase):
    TEXT = lines("power Reds", "power Blues", "power Golds", "land Aa Aaa", "land Bb Bbb", "coast Cc Ccc a b",
                 "land Dd Ddd", "land Ee Eee", "centre Eee Reds", "centre Bbb Golds", "centre Aaa Reds", "centre Ddd",
                 "centre Ccc Reds")

    def test_none(self):
        self.assertEqual(on(self.TEXT, homes(1)), [[0, 0]])
        self.assertEqual(on("power Reds\nland Albia Alb\ncentre Alb", homes(0)), [[0, 0]])
        self.assertEqual(on("power Reds", homes(0)), [[0, 0]])

    def test_one(self):
        self.assertEqual(on(self.TEXT, homes(2)), [[0, 1, 1]])
        self.assertEqual(on(BOARD, homes(0), homes(1)), [[0, 0], [0, 1, 0]])

    def test_several_rising(self):
        self.assertEqual(on(self.TEXT, homes(0)), [[0, 3, 0, 2, 4]])

    def test_a_unit_makes_no_home(self):
        self.assertEqual(on("power Reds\nland Albia Alb\nstart Reds army Alb", homes(0)), [[0, 0]])

    def test_out_of_range(self):
        for k in (-1, 3, 4, -3, BIG, -BIG):
            self.assertEqual(on(self.TEXT, homes(k)), [[-1]], k)
        self.assertEqual(on("land Albia Alb\ncentre Alb", homes(-1), homes(0)), [[-1], [-1]])

    def test_both_ends_of_seven_powers(self):
        told = [f"power P{c}" for c in "abcdefg"] + ["land Albia Alb", "land Eboria Ebo", "centre Alb Pg", "centre Ebo Pa"]
        self.assertEqual(on(lines(*told), homes(0), homes(6), homes(7), homes(-1)), [[0, 1, 1], [0, 1, 0], [-1], [-1]])

    def test_empty_board(self):
        for k in (0, -1, 1, BIG, -BIG):
            self.assertEqual(run(homes(k)), [[-1]])


class Counts(unittest.TestCase):
    def test_empty_board(self):
        self.assertEqual(run(counts()), [[0, 0, 0, 0, 0, 0, 0]])
        self.assertEqual(on("# nothing", counts()), [[0, 0, 0, 0, 0, 0, 0]])

    def test_each_by_itself(self):
        told = ["power Reds", "coast Aa Aaa", "coast Bb Bbb a b", "coast Cc Ccc"]
        self.assertEqual(on("power Reds\npower Blues", counts()), [[0, 2, 0, 0, 0, 0, 0]])
        self.assertEqual(on(lines(*told[1:]), counts()), [[0, 0, 3, 0, 0, 0, 0]])
        self.assertEqual(on(lines(*told, "join Aaa Bbb", "join Ccc Bbb"), counts()), [[0, 1, 3, 2, 0, 0, 0]])
        self.assertEqual(on(lines(*told, "sail Aaa Bbb/a", "sail Bbb/b Aaa"), counts()), [[0, 1, 3, 0, 2, 0, 0]])
        self.assertEqual(on(lines(*told, "centre Aaa", "centre Ccc Reds"), counts()), [[0, 1, 3, 0, 0, 2, 0]])
        self.assertEqual(on(lines(*told, "start Reds army Aaa", "start Reds fleet Ccc"), counts()),
                         [[0, 1, 3, 0, 0, 0, 2]])

    def test_all_at_once(self):
        self.assertEqual(on(BOARD, counts()), [[0, 2, 8, 3, 6, 2, 2]])
        self.assertEqual(on(UNITS, counts()), [[0, 3, 5, 0, 0, 0, 5]])

    def test_a_new_board_is_counted_anew(self):
        taken = run(read(BOARD), counts(), read("x"), counts(), read("land Albia Alb"), counts(), read(BOARD), counts())
        self.assertEqual(taken[1::2], [[0, 2, 8, 3, 6, 2, 2]] * 2 + [[0, 0, 1, 0, 0, 0, 0], [0, 2, 8, 3, 6, 2, 2]])


if __name__ == "__main__":
    unittest.main()
