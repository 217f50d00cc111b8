"""symmetry: whether an exchange of provinces leaves the board as it is."""

import unittest

from tests.helper import BIG, BOARD, lines, on, parts, run, show, symmetry

# Two powers' sides of a board, 0 1 2 and 3 4 5, with the sea 6 between them.
SIDES = lines(
    "power Reds", "power Blues",
    "land Albia Alb", "coast Borea Bor", "coast Corda Cor x y",
    "land Xanth Xan", "coast Yoke Yok", "coast Zulu Zul p q",
    "sea Middle Mid",
    "join Alb Bor", "join Bor Cor", "join Yok Xan", "join Zul Yok",
    "sail Mid Bor", "sail Cor/y Mid", "sail Yok Mid", "sail Mid Zul/q", "sail Bor Cor/x", "sail Zul/p Yok",
    "centre Alb Reds", "centre Xan",
    "start Reds army Alb",
)
EXCHANGE = (3, 4, 5, 0, 1, 2, 6)


class Symmetry(unittest.TestCase):
    def check(self, text, provinces, answer):
        self.assertEqual(on(text, symmetry(*provinces))[0], answer, provinces)

    def is_one(self, text, *provinces):
        self.check(text, provinces, [0, 1])

    def is_none(self, text, *provinces):
        self.check(text, provinces, [0, 0])

    def refused(self, text, *provinces):
        self.check(text, provinces, [-1])


class Exchanges(Symmetry):
    def test_all_left_as_it_is(self):
        self.is_one(BOARD, *range(8))
        self.is_one(SIDES, *range(7))
        self.is_one("sea Borea Bor", 0)

    def test_two_sides(self):
        # Homes, units, names and shores' names may differ.
        self.is_one(SIDES, *EXCHANGE)
        self.is_none(SIDES, 3, 1, 2, 0, 4, 5, 6)
        self.is_none(SIDES, 0, 4, 5, 3, 1, 2, 6)

    def test_a_ring_turned(self):
        text = lines(*[f"land N{c}n S{c}s" for c in "abcde"],
                     *[f"join S{c}s S{d}s" for c, d in zip("abcde", "bcdea")])
        self.is_one(text, 1, 2, 3, 4, 0)
        self.is_one(text, 3, 4, 0, 1, 2)
        self.is_one(text, 4, 3, 2, 1, 0)
        self.is_none(text, 1, 0, 2, 3, 4)
        self.is_none(text, 0, 2, 4, 1, 3)

    def test_provinces_that_nothing_tells_apart(self):
        text = lines("land Aa Aaa", "land Bb Bbb", "land Cc Ccc")
        for provinces in ((0, 1, 2), (1, 2, 0), (2, 0, 1), (1, 0, 2)):
            self.is_one(text, *provinces)
            self.is_one(text + "\ncentre Aaa\ncentre Bbb\ncentre Ccc", *provinces)

    def test_kinds(self):
        for kinds in (("land", "sea"), ("land", "coast"), ("sea", "coast")):
            text = lines(kinds[0] + " Aa Aaa", kinds[1] + " Bb Bbb")
            self.is_none(text, 1, 0)
            self.is_one(text, 0, 1)
        for kind in ("land", "sea", "coast"):
            self.is_one(lines(kind + " Aa Aaa", kind + " Bb Bbb"), 1, 0)

    def test_counts_of_shores(self):
        shores = ("", " a b", " a b c", " a b c d")
        for one in shores:
            for other in shores:
                text = lines("coast Aa Aaa" + one, "coast Bb Bbb" + other)
                if one == other:
                    self.is_one(text, 1, 0)
                else:
                    self.is_none(text, 1, 0)
        self.is_one(lines("coast Aa Aaa a b", "coast Bb Bbb c d"), 1, 0)

    def test_centres(self):
        text = lines("power Reds", "land Aa Aaa", "land Bb Bbb", "land Cc Ccc", "centre Aaa", "centre Ccc Reds")
        self.is_one(text, 2, 1, 0)
        self.is_none(text, 1, 0, 2)
        self.is_none(text, 0, 2, 1)
        self.is_none(text, 1, 2, 0)

    def test_links_of_land(self):
        text = lines("land Aa Aaa", "land Bb Bbb", "land Cc Ccc", "join Aaa Bbb")
        self.is_one(text, 1, 0, 2)
        self.is_none(text, 2, 1, 0)
        self.is_none(text, 0, 2, 1)
        self.is_none(text, 1, 2, 0)

    def test_links_of_sea(self):
        text = lines("sea Aa Aaa", "sea Bb Bbb", "sea Cc Ccc", "sail Aaa Bbb")
        self.is_one(text, 1, 0, 2)
        self.is_none(text, 2, 1, 0)
        self.is_none(text, 0, 2, 1)
        self.is_none(text, 1, 2, 0)

    def test_a_link_of_land_is_no_link_of_sea(self):
        told = ("coast Aa Aaa", "coast Bb Bbb", "coast Cc Ccc", "join Aaa Bbb", "sail Bbb Ccc")
        self.is_none(lines(*told), 2, 1, 0)
        self.is_one(lines(*told, "sail Aaa Bbb", "join Bbb Ccc"), 2, 1, 0)
        self.is_none(lines(*told, "sail Aaa Bbb"), 2, 1, 0)
        self.is_none(lines(*told, "join Bbb Ccc"), 2, 1, 0)

    def test_links_of_sea_by_the_numbers_of_their_shores(self):
        told = ("sea Mid Mmm", "coast Aa Aaa a b", "coast Bb Bbb b a")
        self.is_one(lines(*told, "sail Mmm Aaa/a", "sail Mmm Bbb/b"), 0, 2, 1)
        self.is_none(lines(*told, "sail Mmm Aaa/a", "sail Mmm Bbb/a"), 0, 2, 1)
        self.is_none(lines(*told, "sail Mmm Aaa/a"), 0, 2, 1)
        self.is_one(lines(*told, "sail Aaa/a Bbb/b"), 0, 2, 1)
        self.is_none(lines(*told, "sail Aaa/a Bbb/a"), 0, 2, 1)
        self.is_one(lines(*told, "sail Aaa/a Bbb/a", "sail Aaa/b Bbb/b"), 0, 2, 1)

    def test_links_of_sea_at_several_shores(self):
        told = ("sea Mid Mmm", "coast Aa Aaa a b c", "coast Bb Bbb a b c", "sail Mmm Aaa/a", "sail Mmm Aaa/c",
                "sail Bbb/a Mmm")
        self.is_none(lines(*told), 0, 2, 1)
        self.is_none(lines(*told, "sail Bbb/b Mmm"), 0, 2, 1)
        self.is_one(lines(*told, "sail Bbb/c Mmm"), 0, 2, 1)


class Lists(Symmetry):
    def test_a_province_twice(self):
        text = lines("land Aa Aaa", "land Bb Bbb", "land Cc Ccc")
        self.is_none(text, 0, 0, 2)
        self.is_none(text, 0, 1, 1)
        self.is_none(text, 2, 2, 2)
        self.is_none(SIDES, 3, 4, 5, 0, 1, 2, 2)

    def test_a_shorter_list(self):
        text = lines("land Aa Aaa", "land Bb Bbb", "land Cc Ccc")
        for provinces in ((), (0,), (2,), (0, 1), (1, 0), (1, 2)):
            self.is_none(text, *provinces)
        self.is_none(SIDES, *EXCHANGE[:-1])

    def test_a_longer_list(self):
        text = lines("land Aa Aaa", "land Bb Bbb", "land Cc Ccc")
        self.is_none(text, 0, 1, 2, 0)
        self.is_none(text, 0, 1, 2, 2)
        self.is_none(text, *([0, 1, 2] * 13))
        self.is_none(SIDES, *EXCHANGE, 6)
        self.is_none(text, *([0] * 40))

    def test_more_than_forty(self):
        text = lines("land Aa Aaa", "land Bb Bbb", "land Cc Ccc")
        self.refused(text, *([0] * 41))
        self.refused(text, *([0, 1] * 50))
        self.refused(text, *([9] * 100))

    def test_no_province(self):
        text = lines("land Aa Aaa", "land Bb Bbb", "land Cc Ccc")
        for wrong in (-1, 3, -3, 40, BIG, -BIG):
            self.refused(text, wrong, 1, 2)
            self.refused(text, 0, wrong, 2)
            self.refused(text, 0, 1, wrong)
            self.refused(text, wrong)
            self.refused(text, 0, 0, 0, 0, wrong)

    def test_empty_board(self):
        self.assertEqual(run(symmetry()), [[0, 1]])
        self.assertEqual(run(symmetry(0), symmetry(-1), symmetry(*[0] * 41), symmetry(0, 1)), [[-1]] * 4)
        self.assertEqual(on("power Reds", symmetry(), symmetry(0)), [[0, 1], [-1]])

    def test_forty_provinces(self):
        words = [a + b for a in "abcde" for b in "fghijklm"]
        told = [f"sea N{w}n S{w}" for w in words]
        ring = [f"sail S{w} S{v}" for w, v in zip(words, words[1:] + words[:1])]
        turned = [(n + 7) % 40 for n in range(40)]
        self.is_one(lines(*told, *ring), *range(40))
        self.is_one(lines(*told, *ring), *turned)
        self.is_none(lines(*told, *ring[:-1]), *turned)
        self.is_one(lines(*told, *ring[:-1]), *range(39, -1, -1))
        self.is_none(lines(*told, *ring), *turned[:-1])
        self.refused(lines(*told, *ring), *turned, 0)
        self.refused(lines(*told, *ring), *range(1, 41))

    def test_it_changes_nothing(self):
        taken = on(SIDES, parts(), show(), symmetry(*EXCHANGE), symmetry(0), parts(), show())
        self.assertEqual(taken[:2], taken[4:])


if __name__ == "__main__":
    unittest.main()
