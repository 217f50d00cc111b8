"""way: a shortest way, by the least province or place each time."""

import unittest

from tests.helper import BIG, BOARD, far, lines, on, run, way

ARMIES, FLEETS, ANY = 0, 1, 2


def lands(count):
    return [f"land N{c}n S{c}s" for c in "abcdefghijklmnopqrst"[:count]]


def joins(*ends):
    return [f"join S{ends_of[0]}s S{ends_of[1]}s" for ends_of in ends]


class Way(unittest.TestCase):
    def check(self, call, *answer):
        self.assertEqual(on(BOARD, call)[0], list(answer), call)

    def test_armies(self):
        self.check(way(ARMIES, 0, 0, 2, 0), 0, 2, 0, 2)
        self.check(way(ARMIES, 0, 0, 4, 0), 0, 4, 0, 2, 3, 4)
        self.check(way(ARMIES, 4, 0, 0, 0), 0, 4, 4, 3, 2, 0)

    def test_fleets(self):
        self.check(way(FLEETS, 1, 0, 2, 0), 0, 2, 1, 0, 2, 0)
        self.check(way(FLEETS, 2, 0, 6, 3), 0, 3, 2, 0, 1, 0, 6, 3)
        self.check(way(FLEETS, 6, 3, 2, 0), 0, 3, 6, 3, 1, 0, 2, 0)
        self.check(way(FLEETS, 3, 1, 6, 2), 0, 3, 3, 1, 5, 0, 6, 2)

    def test_fleets_from_a_shore_to_another_of_one_province(self):
        self.check(way(FLEETS, 6, 0, 6, 3), 0, 3, 6, 0, 1, 0, 6, 3)
        self.check(way(FLEETS, 3, 0, 3, 1), -5)

    def test_any_link(self):
        self.check(way(ANY, 0, 0, 6, 0), 0, 4, 0, 2, 1, 6)
        self.check(way(ANY, 4, 0, 6, 0), 0, 4, 4, 3, 1, 6)
        self.check(way(ANY, 6, 0, 4, 0), 0, 4, 6, 1, 3, 4)
        self.check(way(ANY, 1, 0, 5, 0), 0, 3, 1, 3, 5)

    def test_any_link_passes_from_shore_to_shore(self):
        text = lines("sea Aa Aaa", "coast Bb Bbb a b", "sea Cc Ccc", "sail Aaa Bbb/a", "sail Bbb/b Ccc")
        self.assertEqual(on(text, way(ANY, 0, 0, 2, 0), way(FLEETS, 0, 0, 2, 0)), [[0, 3, 0, 1, 2], [-5]])

    def test_from_something_to_itself(self):
        for i in range(8):
            self.check(way(ARMIES, i, 0, i, 0), 0, 1, i)
            self.check(way(ANY, i, 0, i, 0), 0, 1, i)
            self.check(way(FLEETS, i, 0, i, 0), 0, 1, i, 0)
        self.check(way(FLEETS, 6, 1, 6, 1), 0, 1, 6, 1)
        self.check(way(FLEETS, 3, 1, 3, 1), 0, 1, 3, 1)

    def test_no_way(self):
        for how in (ARMIES, FLEETS, ANY):
            self.check(way(how, 0, 0, 7, 0), -5)
            self.check(way(how, 7, 0, 0, 0), -5)
        self.check(way(ARMIES, 0, 0, 6, 0), -5)
        self.check(way(FLEETS, 0, 0, 2, 0), -5)
        self.check(way(FLEETS, 1, 0, 5, 0), -5)
        self.check(way(FLEETS, 6, 1, 6, 0), -5)


class Least(unittest.TestCase):
    def test_the_least_of_two_in_the_middle(self):
        text = lines(*lands(4), *joins("da", "dc", "db", "ac", "ab"))
        self.assertEqual(on(text, way(ARMIES, 3, 0, 2, 0), way(ARMIES, 2, 0, 1, 0), way(ARMIES, 1, 0, 2, 0)),
                         [[0, 2, 3, 2], [0, 3, 2, 0, 1], [0, 3, 1, 0, 2]])

    def test_each_step_is_chosen_from_the_start_on(self):
        # From 0 on the least is 1, from 5 on it is 3: the ways are not one another's reverse.
        text = lines(*lands(6), *joins("ab", "ac", "be", "cd", "ef", "df"))
        self.assertEqual(on(text, way(ARMIES, 0, 0, 5, 0), way(ARMIES, 5, 0, 0, 0)),
                         [[0, 4, 0, 1, 4, 5], [0, 4, 5, 3, 2, 0]])
        self.assertEqual(on(text, way(ANY, 0, 0, 5, 0), way(ANY, 5, 0, 0, 0)),
                         [[0, 4, 0, 1, 4, 5], [0, 4, 5, 3, 2, 0]])

    def test_the_least_is_by_number_not_by_telling_or_name(self):
        text = lines("land Zulu Zul", "land Yoke Yok", "land Able Abl", "land Baker Bak",
                     "join Zul Abl", "join Abl Bak", "join Bak Yok", "join Yok Zul")
        self.assertEqual(on(text, way(ARMIES, 0, 0, 3, 0), way(ARMIES, 3, 0, 0, 0)), [[0, 3, 0, 1, 3], [0, 3, 3, 1, 0]])

    def test_a_least_step_that_leads_nowhere_is_not_taken(self):
        text = lines(*lands(5), *joins("ca", "cd", "de"))
        self.assertEqual(on(text, way(ARMIES, 2, 0, 4, 0)), [[0, 3, 2, 3, 4]])

    def test_a_least_step_on_a_longer_way_is_not_taken(self):
        text = lines(*lands(6), *joins("ca", "ab", "bf", "ce", "ef"))
        self.assertEqual(on(text, way(ARMIES, 2, 0, 5, 0)), [[0, 3, 2, 4, 5]])

    def test_a_least_step_at_the_same_distance_is_not_taken(self):
        text = lines(*lands(4), *joins("ba", "ad", "bc", "cd", "ac"))
        self.assertEqual(on(text, way(ARMIES, 1, 0, 3, 0), way(ARMIES, 0, 0, 3, 0), way(ARMIES, 2, 0, 3, 0)),
                         [[0, 3, 1, 0, 3], [0, 2, 0, 3], [0, 2, 2, 3]])

    def test_the_least_place_by_province_then_by_shore(self):
        text = lines("sea Aa Aaa", "coast Bb Bbb x w v", "sea Cc Ccc", "sea Dd Ddd",
                     "sail Aaa Ddd", "sail Ddd Ccc", "sail Aaa Bbb/v", "sail Bbb/v Ccc", "sail Aaa Bbb/w",
                     "sail Bbb/w Ccc", "sail Aaa Bbb/x")
        self.assertEqual(on(text, way(FLEETS, 0, 0, 2, 0), way(FLEETS, 2, 0, 0, 0), way(ANY, 0, 0, 2, 0)),
                         [[0, 3, 0, 0, 1, 1, 2, 0], [0, 3, 2, 0, 1, 1, 0, 0], [0, 3, 0, 1, 2]])

    def test_a_lesser_province_at_a_greater_shore(self):
        text = lines("sea Aa Aaa", "coast Bb Bbb a b c d", "coast Cc Ccc a b", "sea Dd Ddd",
                     "sail Aaa Ccc/a", "sail Ccc/a Ddd", "sail Aaa Bbb/d", "sail Bbb/d Ddd")
        self.assertEqual(on(text, way(FLEETS, 0, 0, 3, 0)), [[0, 3, 0, 0, 1, 3, 3, 0]])

    def test_each_kind_of_link_by_itself(self):
        text = lines("coast Aa Aaa", "coast Bb Bbb", "coast Cc Ccc", "coast Dd Ddd",
                     "join Aaa Bbb", "join Bbb Ddd", "sail Aaa Ccc", "sail Ccc Ddd", "join Bbb Ccc")
        self.assertEqual(on(text, way(ARMIES, 0, 0, 3, 0), way(FLEETS, 0, 0, 3, 0), way(ANY, 0, 0, 3, 0),
                            way(ARMIES, 0, 0, 2, 0), way(FLEETS, 0, 0, 2, 0)),
                         [[0, 3, 0, 1, 3], [0, 3, 0, 0, 2, 0, 3, 0], [0, 3, 0, 1, 3], [0, 3, 0, 1, 2], [0, 2, 0, 0, 2, 0]])

    def test_as_long_as_far_says(self):
        for how in (ARMIES, FLEETS, ANY):
            for i in range(8):
                for j in range(8):
                    links, steps = on(BOARD, far(how, i, 0, j, 0), way(how, i, 0, j, 0))
                    self.assertEqual(links[1:], [n - 1 for n in steps[1:2]])


class OutOfRange(unittest.TestCase):
    def refused(self, *numbers):
        self.assertEqual(on(BOARD, way(*numbers))[0], [-1], numbers)

    def test_how(self):
        for how in (-1, 3, BIG, -BIG):
            self.refused(how, 0, 0, 0, 0)

    def test_provinces(self):
        for how in (ARMIES, FLEETS, ANY):
            for wrong in (-1, 8, BIG, -BIG):
                self.refused(how, wrong, 0, 0, 0)
                self.refused(how, 0, 0, wrong, 0)
                self.refused(how, wrong, 0, wrong, 0)

    def test_shores(self):
        for wrong in (-1, 1, BIG, -BIG):
            for how in (ARMIES, ANY):
                for i in (0, 3):
                    self.refused(how, i, wrong, 2, 0)
                    self.refused(how, 2, 0, i, wrong)
            self.refused(FLEETS, 2, wrong, 1, 0)
            self.refused(FLEETS, 1, 0, 2, wrong)
        for wrong in (-1, 2, BIG, -BIG):
            self.refused(FLEETS, 3, wrong, 1, 0)
            self.refused(FLEETS, 1, 0, 3, wrong)
        self.refused(FLEETS, 6, 4, 1, 0)
        self.refused(FLEETS, 1, 0, 6, 4)

    def test_before_no_way(self):
        self.refused(FLEETS, 7, 1, 1, 0)
        self.refused(ARMIES, 0, 0, 7, 1)

    def test_empty_board(self):
        self.assertEqual(run(way(ARMIES, 0, 0, 0, 0), way(FLEETS, 0, 0, 0, 0), way(ANY, 0, 0, 0, 0)), [[-1]] * 3)


if __name__ == "__main__":
    unittest.main()
