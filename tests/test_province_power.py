"""province and power: what the board says of one of them."""

import unittest

from tests.helper import BIG, BOARD, lines, on, power, province, row, run


def names(*words):
    return [number for word in words for number in row(word)]


class ProvinceCalls(unittest.TestCase):
    def check(self, i, numbers, *words):
        self.assertEqual(on(BOARD, province(i))[0], [0] + numbers + names(*words))

    def test_land_that_is_a_home(self):
        self.check(0, [0, 1, 1, 0], "Albia", "Alb")

    def test_sea(self):
        self.check(1, [1, 0, -1, 0], "Borea", "Bor")

    def test_coast_that_is_a_centre_and_nobodys_home(self):
        self.check(2, [2, 1, -1, 0], "Corda", "Cor")

    def test_coast_with_two_shores(self):
        self.check(3, [2, 0, -1, 2], "Delos", "Del", "north", "south")

    def test_coast_with_four_shores(self):
        self.check(6, [2, 0, -1, 4], "Gallia", "Gal", "a", "b", "c", "d")

    def test_land_that_is_no_centre(self):
        self.check(7, [0, 0, -1, 0], "Hesper", "Hes")

    def test_home_of_the_first_power(self):
        text = lines("power Reds", "coast Delos Del a b c", "centre Del Reds")
        self.assertEqual(on(text, province(0))[0], [0, 2, 1, 0, 3] + names("Delos", "Del", "a", "b", "c"))

    def test_longest_words(self):
        text = "coast A" + "b" * 15 + " Xyz " + "c" * 8 + " " + "d" * 8
        self.assertEqual(on(text, province(0))[0],
                         [0, 2, 0, -1, 2] + names("A" + "b" * 15, "Xyz", "c" * 8, "d" * 8))

    def test_out_of_range(self):
        for i in (-1, 8, 9, -8, BIG, -BIG):
            self.assertEqual(on(BOARD, province(i)), [[-1]])

    def test_empty_board(self):
        for i in (0, -1, 1, BIG, -BIG):
            self.assertEqual(run(province(i)), [[-1]])


class PowerCalls(unittest.TestCase):
    def test_names(self):
        self.assertEqual(on(BOARD, power(0), power(1)), [[0] + names("Reds"), [0] + names("Blues")])

    def test_longest_name(self):
        self.assertEqual(on("power A" + "b" * 11, power(0)), [[0] + names("A" + "b" * 11)])

    def test_out_of_range(self):
        for k in (-1, 2, 3, -2, BIG, -BIG):
            self.assertEqual(on(BOARD, power(k)), [[-1]])

    def test_empty_board(self):
        for k in (0, -1, 1, BIG, -BIG):
            self.assertEqual(run(power(k)), [[-1]])


if __name__ == "__main__":
    unittest.main()
