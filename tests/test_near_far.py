"""near and far: going along links."""

import unittest

from tests.helper import BIG, BOARD, far, lines, near, on, run

ARMIES, FLEETS, ANY = 0, 1, 2


class Near(unittest.TestCase):
    def check(self, call, *answer):
        self.assertEqual(on(BOARD, call)[0], list(answer), call)

    def test_armies(self):
        self.check(near(ARMIES, 0), 0, 1, 2)
        self.check(near(ARMIES, 2), 0, 2, 0, 3)
        self.check(near(ARMIES, 3), 0, 2, 2, 4)
        self.check(near(ARMIES, 4), 0, 1, 3)

    def test_fleets(self):
        self.check(near(FLEETS, 1), 0, 4, 2, 0, 3, 0, 6, 0, 6, 3)
        self.check(near(FLEETS, 5), 0, 2, 3, 1, 6, 2)
        self.check(near(FLEETS, 2), 0, 1, 1, 0)

    def test_fleets_at_shores(self):
        self.check(near(FLEETS, 3, 0), 0, 1, 1, 0)
        self.check(near(FLEETS, 3, 1), 0, 1, 5, 0)
        self.check(near(FLEETS, 6, 0), 0, 1, 1, 0)
        self.check(near(FLEETS, 6, 2), 0, 1, 5, 0)
        self.check(near(FLEETS, 6, 3), 0, 1, 1, 0)

    def test_any_link(self):
        self.check(near(ANY, 0), 0, 1, 2)
        self.check(near(ANY, 1), 0, 3, 2, 3, 6)
        self.check(near(ANY, 2), 0, 3, 0, 1, 3)
        self.check(near(ANY, 3), 0, 4, 1, 2, 4, 5)
        self.check(near(ANY, 6), 0, 2, 1, 5)

    def test_any_link_names_each_province_once(self):
        text = lines("coast Corda Cor", "coast Delos Del a b", "join Cor Del", "sail Cor Del/a", "sail Del/b Cor")
        self.assertEqual(on(text, near(ANY, 0), near(ANY, 1)), [[0, 1, 1], [0, 1, 0]])

    def test_nothing_near(self):
        for how in (ARMIES, FLEETS, ANY):
            self.check(near(how, 7), 0, 0)
        self.check(near(ARMIES, 1), 0, 0)
        self.check(near(FLEETS, 0), 0, 0)
        self.check(near(FLEETS, 6, 1), 0, 0)

    def test_rising_whatever_order_they_were_told_in(self):
        text = lines("coast Aa Aaa", "coast Bb Bbb a b c", "coast Cc Ccc", "sail Ccc Aaa", "sail Bbb/c Aaa",
                     "sail Bbb/a Aaa", "sail Aaa Bbb/b", "join Ccc Aaa", "join Aaa Bbb")
        self.assertEqual(on(text, near(ARMIES, 0), near(FLEETS, 0), near(ANY, 0)),
                         [[0, 2, 1, 2], [0, 4, 1, 0, 1, 1, 1, 2, 2, 0], [0, 2, 1, 2]])

    def test_how_out_of_range(self):
        for how in (-1, 3, BIG, -BIG):
            self.check(near(how, 0), -1)

    def test_province_out_of_range(self):
        for how in (ARMIES, FLEETS, ANY):
            for i in (-1, 8, BIG, -BIG):
                self.check(near(how, i), -1)

    def test_shore_out_of_range(self):
        for s in (-1, 1, 2, BIG, -BIG):
            for how in (ARMIES, ANY):
                self.check(near(how, 0, s), -1)
                self.check(near(how, 3, s), -1)
            self.check(near(FLEETS, 2, s), -1)
            self.check(near(FLEETS, 0, s), -1)
        for s in (-1, 2, 3, BIG, -BIG):
            self.check(near(FLEETS, 3, s), -1)
        for s in (-1, 4, BIG, -BIG):
            self.check(near(FLEETS, 6, s), -1)

    def test_empty_board(self):
        self.assertEqual(run(near(ARMIES, 0), near(FLEETS, 0), near(ANY, 0)), [[-1]] * 3)


class Far(unittest.TestCase):
    def check(self, call, *answer):
        self.assertEqual(on(BOARD, call)[0], list(answer), call)

    def both_ways(self, how, i, s, j, u, *answer):
        self.check(far(how, i, s, j, u), *answer)
        self.check(far(how, j, u, i, s), *answer)

    def test_armies(self):
        self.both_ways(ARMIES, 0, 0, 2, 0, 0, 1)
        self.both_ways(ARMIES, 0, 0, 3, 0, 0, 2)
        self.both_ways(ARMIES, 0, 0, 4, 0, 0, 3)

    def test_fleets(self):
        self.both_ways(FLEETS, 1, 0, 3, 0, 0, 1)
        self.both_ways(FLEETS, 2, 0, 3, 0, 0, 2)
        self.both_ways(FLEETS, 2, 0, 6, 3, 0, 2)
        self.both_ways(FLEETS, 3, 1, 6, 2, 0, 2)

    def test_fleets_do_not_go_from_shore_to_shore(self):
        self.both_ways(FLEETS, 3, 0, 3, 1, -5)
        self.both_ways(FLEETS, 1, 0, 5, 0, -5)
        self.both_ways(FLEETS, 6, 0, 6, 3, 0, 2)

    def test_any_link(self):
        self.both_ways(ANY, 0, 0, 1, 0, 0, 2)
        self.both_ways(ANY, 1, 0, 5, 0, 0, 2)
        self.both_ways(ANY, 0, 0, 6, 0, 0, 3)
        self.both_ways(ANY, 4, 0, 6, 0, 0, 3)

    def test_from_something_to_itself(self):
        for i in range(8):
            for how in (ARMIES, FLEETS, ANY):
                self.check(far(how, i, 0, i, 0), 0, 0)
        self.check(far(FLEETS, 6, 1, 6, 1), 0, 0)

    def test_no_way(self):
        for how in (ARMIES, FLEETS, ANY):
            self.both_ways(how, 0, 0, 7, 0, -5)
        self.both_ways(ARMIES, 0, 0, 6, 0, -5)
        self.both_ways(ARMIES, 1, 0, 2, 0, -5)
        self.both_ways(FLEETS, 0, 0, 2, 0, -5)
        self.both_ways(FLEETS, 6, 1, 6, 0, -5)

    def test_the_least_number_round_a_ring(self):
        told = [f"land N{c}n S{c}s" for c in "abcdefgh"]
        ring = [f"join S{c}s S{d}s" for c, d in zip("abcdefgh", "bcdefgha")]
        taken = on(lines(*told, *ring), *[far(ARMIES, 0, 0, j, 0) for j in range(8)])
        self.assertEqual(taken, [[0, n] for n in (0, 1, 2, 3, 4, 3, 2, 1)])

    def test_a_long_way(self):
        letters = "abcdefghijklmnopqrst"
        words = ["Sa" + c for c in letters] + ["Sb" + c for c in letters]
        told = [f"sea N{word[1:]} {word}" for word in words]
        chain = [f"sail {a} {b}" for a, b in zip(words, words[1:])]
        self.assertEqual(on(lines(*told, *chain), far(FLEETS, 0, 0, 39, 0), far(ANY, 39, 0, 0, 0)),
                         [[0, 39], [0, 39]])

    def test_how_out_of_range(self):
        for how in (-1, 3, BIG, -BIG):
            self.check(far(how, 0, 0, 0, 0), -1)

    def test_provinces_out_of_range(self):
        for how in (ARMIES, FLEETS, ANY):
            for wrong in (-1, 8, BIG, -BIG):
                self.both_ways(how, wrong, 0, 0, 0, -1)
                self.check(far(how, wrong, 0, wrong, 0), -1)

    def test_shores_out_of_range(self):
        for wrong in (-1, 1, BIG, -BIG):
            for how in (ARMIES, ANY):
                self.both_ways(how, 3, wrong, 2, 0, -1)
                self.both_ways(how, 0, wrong, 2, 0, -1)
            self.both_ways(FLEETS, 2, wrong, 1, 0, -1)
            self.both_ways(FLEETS, 0, wrong, 1, 0, -1)
        for wrong in (-1, 2, BIG, -BIG):
            self.both_ways(FLEETS, 3, wrong, 1, 0, -1)
        self.both_ways(FLEETS, 6, 4, 1, 0, -1)

    def test_out_of_range_goes_before_no_way(self):
        self.both_ways(FLEETS, 7, 1, 1, 0, -1)
        self.both_ways(ARMIES, 7, 1, 0, 0, -1)

    def test_empty_board(self):
        self.assertEqual(run(far(ARMIES, 0, 0, 0, 0)), [[-1]])


if __name__ == "__main__":
    unittest.main()
