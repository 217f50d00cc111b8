"""parts: provinces that any links hold together."""

import unittest

from tests.helper import BOARD, lines, on, parts, run

COASTS = ("coast Aa Aaa", "coast Bb Bbb a b", "coast Cc Ccc", "coast Dd Ddd a b c d", "coast Ee Eee")


class Parts(unittest.TestCase):
    def check(self, links, *least):
        self.assertEqual(on(lines(*COASTS, *links), parts()), [[0, len(least)] + list(least)])

    def test_no_provinces(self):
        self.assertEqual(run(parts()), [[0, 0]])
        self.assertEqual(on("power Reds", parts()), [[0, 0]])

    def test_no_links(self):
        self.check([], 0, 1, 2, 3, 4)
        self.assertEqual(on("sea Borea Bor", parts()), [[0, 1, 0]])

    def test_links_of_land_alone(self):
        self.check(["join Aaa Ccc"], 0, 1, 0, 3, 4)
        self.check(["join Eee Bbb", "join Ddd Ccc"], 0, 1, 2, 2, 1)
        self.check(["join Eee Ddd", "join Ddd Ccc", "join Ccc Bbb"], 0, 1, 1, 1, 1)
        self.check(["join Eee Ddd", "join Ddd Ccc", "join Ccc Bbb", "join Bbb Aaa"], 0, 0, 0, 0, 0)

    def test_links_of_sea_alone(self):
        self.check(["sail Aaa Ccc"], 0, 1, 0, 3, 4)
        self.check(["sail Eee Bbb/b", "sail Ddd/c Ccc"], 0, 1, 2, 2, 1)

    def test_links_of_sea_at_different_shores_of_one_province(self):
        self.check(["sail Aaa Bbb/a", "sail Bbb/b Ccc"], 0, 0, 0, 3, 4)
        self.check(["sail Eee Ddd/a", "sail Ddd/d Ccc", "sail Bbb/b Ddd/b"], 0, 1, 1, 1, 1)

    def test_both_kinds_mixed(self):
        self.check(["join Aaa Bbb", "sail Bbb/b Ccc"], 0, 0, 0, 3, 4)
        self.check(["sail Eee Ddd/c", "join Ddd Bbb", "join Aaa Ccc"], 0, 1, 0, 1, 1)
        self.check(["join Aaa Eee", "sail Eee Aaa", "join Bbb Ddd", "sail Ddd/a Bbb/b"], 0, 1, 2, 1, 0)
        self.assertEqual(on(BOARD, parts()), [[0, 8, 0, 0, 0, 0, 0, 0, 0, 7]])

    def test_two_parts_joined_by_their_greatest(self):
        self.check(["join Aaa Ddd", "join Bbb Eee", "sail Ddd/a Eee"], 0, 0, 2, 0, 0)

    def test_a_long_chain_told_backwards(self):
        words = [a + b for a in "abcde" for b in "fghijklm"]
        told = [f"land N{w}n S{w}" for w in words]
        chain = [f"join S{w} S{v}" for w, v in zip(words[1:], words)]
        self.assertEqual(on(lines(*told, *reversed(chain)), parts()), [[0, 40] + [0] * 40])
        self.assertEqual(on(lines(*told, *reversed(chain[20:]), *chain[:19]), parts()), [[0, 40] + [0] * 20 + [20] * 20])


if __name__ == "__main__":
    unittest.main()
