"""read: the counts of reason 6, reached and passed, and reason 6 behind the others."""

import unittest

from tests.helper import far, lines, near, on, read, run, shown

SMALL = "abcdefghijklmnopqrstuvwxyz"


def two(number):
    return SMALL[number // 26] + SMALL[number % 26]


def provinces(kind, count, behind=""):
    """Lines for the provinces Naa/Saa, Nab/Sab, ..: both are three letters long."""
    return [f"{kind} N{two(n)} S{two(n)}{behind}" for n in range(count)]


def powers(count):
    return ["power P" + two(n) for n in range(count)]


def pairs(count, of=40):
    found = [(a, b) for a in range(of) for b in range(a + 1, of)]
    return found[:count]


def joins(count):
    return [f"join S{two(a)} S{two(b)}" for a, b in pairs(count)]


def sails(count, shore=""):
    return [f"sail S{two(a)}{shore} S{two(b)}{shore}" for a, b in pairs(count)]


def armies(count):
    return [f"start Paa army S{two(n)}" for n in range(count)]


class Bounds(unittest.TestCase):
    def right(self, count, texts):
        self.assertEqual(run(read(lines(*texts)))[0], [0, count])

    def wrong(self, why, texts):
        self.assertEqual(run(read(lines(*texts)))[0], [1, len(texts), why])

    def test_powers(self):
        self.right(0, powers(7))
        self.wrong(6, powers(8))
        self.wrong(2, powers(7) + ["power Pag"])
        self.wrong(1, powers(7) + ["power P"])

    def test_provinces(self):
        for kind in ("land", "sea", "coast"):
            self.right(40, provinces("land", 39) + [kind + " Nova Nov"])
            self.wrong(6, provinces("land", 40) + [kind + " Nova Nov"])
            self.wrong(2, provinces("land", 40) + [kind + " Nova Saa"])
            self.wrong(2, provinces("land", 40) + [kind + " Nov Nov"])
        self.wrong(6, provinces("coast", 40) + ["coast Nova Nov a b"])
        self.wrong(1, provinces("coast", 40) + ["coast Nova Nov a a"])

    def test_links_of_land(self):
        told = provinces("coast", 40)
        self.right(40, told + joins(300))
        self.wrong(6, told + joins(301))
        self.wrong(5, told + joins(300) + ["join Sab Saa"])
        self.wrong(4, told + joins(300) + ["join Saa Saa"])
        self.wrong(3, told + joins(300) + ["join Saa Nov"])

    def test_links_of_sea(self):
        told = provinces("coast", 40)
        self.right(40, told + sails(300))
        self.wrong(6, told + sails(301))
        self.wrong(5, told + sails(300) + ["sail Sab Saa"])
        self.wrong(4, told + sails(300) + ["sail Saa Saa"])
        self.wrong(3, told + sails(300) + ["sail Saa Nov"])

    def test_links_of_sea_of_few_provinces(self):
        told = provinces("coast", 8, " a b c d")
        ends = [(a, b, s, u) for a, b in pairs(28, 8) for s in "abcd" for u in "abcd"]
        links = [f"sail S{two(a)}/{s} S{two(b)}/{u}" for a, b, s, u in ends]
        self.right(8, told + links[:300])
        self.wrong(6, told + links[:301])

    def test_links_of_land_and_sea_are_counted_apart(self):
        told = provinces("coast", 40)
        self.right(40, told + joins(300) + sails(300))
        self.wrong(6, told + sails(300) + joins(301))
        self.wrong(6, told + joins(300) + sails(301))

    def test_units(self):
        told = powers(1) + provinces("coast", 40)
        self.right(40, told + armies(24))
        self.wrong(6, told + armies(25))
        self.wrong(6, told + armies(24) + ["start Paa fleet Sbn"])
        self.wrong(5, told + armies(24) + ["start Paa fleet Saa"])
        self.wrong(3, told + armies(24) + ["start Pab fleet Sbn"])
        self.wrong(3, told + armies(24) + ["start Paa fleet Sbn/x"])
        self.wrong(4, ["sea Borea Bor"] + told[:-1] + armies(24) + ["start Paa army Bor"])

    def test_centres_have_no_bound_of_their_own(self):
        told = powers(7) + provinces("coast", 40)
        centres = [f"centre S{two(n)} P{two(n % 7)}" for n in range(40)]
        self.right(40, told + centres)

    def test_a_full_board_may_still_be_told_other_things(self):
        full = powers(7) + provinces("coast", 40) + joins(300) + armies(24)
        self.right(40, full + sails(1) + ["centre Saa Pag", "# end"])

    def test_all_bounds_at_once(self):
        centres = [f"centre S{two(n)} P{two(n % 7)}" for n in range(40)]
        full = powers(7) + provinces("coast", 40, " a b c d") + joins(300) + sails(300, "/c") + centres + armies(24)
        self.right(40, full)
        self.assertEqual(shown(lines(*full)), lines(*full) + "\n")
        taken = on(lines(*full), near(1, 39, 2), near(2, 0), far(0, 39, 0, 38, 0), far(1, 0, 2, 39, 2))
        self.assertEqual(taken[0], [0, 8] + [n for i in range(8) for n in (i, 2)])
        self.assertEqual(taken[1], [0, 39] + list(range(1, 40)))
        self.assertEqual(taken[2:], [[0, 2], [0, 1]])


if __name__ == "__main__":
    unittest.main()
