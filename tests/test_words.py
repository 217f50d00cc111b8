"""find and place: provinces and places by words."""

import unittest

from tests.helper import BOARD, find, lines, on, place, run

# Short names that begin like other provinces' names, and a name that is
# another's beginning.
NAMES = lines("land Nova Bal", "sea Balt Ner", "coast Baltic Nep a b", "land Bal" + "o Xyz", "land Nor Abc",
              "land Norland Nrl")


class Find(unittest.TestCase):
    def found(self, text, word):
        answer = on(text, find(word))[0]
        self.assertEqual(answer[0], 0)
        self.assertEqual(answer[1], len(answer) - 2)
        return answer[2:]

    def test_name(self):
        self.assertEqual(self.found(BOARD, "Albia"), [0])
        self.assertEqual(self.found(BOARD, "Hesper"), [7])

    def test_short_name(self):
        self.assertEqual(self.found(BOARD, "Alb"), [0])
        self.assertEqual(self.found(BOARD, "Gal"), [6])

    def test_a_whole_name_alone_though_others_begin_with_it(self):
        self.assertEqual(self.found(NAMES, "Balt"), [1])
        self.assertEqual(self.found(NAMES, "Nor"), [4])

    def test_a_whole_short_name_alone_though_names_begin_with_it(self):
        self.assertEqual(self.found(NAMES, "Bal"), [0])

    def test_beginning_of_one_name(self):
        self.assertEqual(self.found(NAMES, "Balti"), [2])
        self.assertEqual(self.found(BOARD, "Ga"), [6])

    def test_beginning_of_several_names(self):
        self.assertEqual(self.found(NAMES, "Ba"), [1, 2, 3])
        self.assertEqual(self.found(NAMES, "N"), [0, 4, 5])
        self.assertEqual(self.found(NAMES, "No"), [0, 4, 5])

    def test_beginning_of_a_short_name_alone(self):
        self.assertEqual(self.found(NAMES, "Ne"), [])
        self.assertEqual(self.found(NAMES, "Xy"), [])
        self.assertEqual(self.found(NAMES, "Ab"), [])

    def test_no_such_province(self):
        for word in ("Z", "albia", "Albiaa", "lbia", "Albia ", " Albia", "Albia/", "Gal/a", "a", "#", "A?", "A" * 40):
            self.assertEqual(self.found(BOARD, word), [], word)
        for byte in (0, 10, 31, 127, 128, 255):
            self.assertEqual(self.found(BOARD, [65, byte]), [])
            self.assertEqual(self.found(BOARD, [byte]), [])

    def test_empty_word(self):
        self.assertEqual(self.found(BOARD, ""), [])

    def test_empty_board(self):
        self.assertEqual(run(find("A"), find(""), find("Albia")), [[0, 0]] * 3)


class Place(unittest.TestCase):
    def check(self, word, answer):
        self.assertEqual(on(BOARD, place(word))[0], answer, word)

    def test_without_shores(self):
        self.check("Alb", [0, 0, 0])
        self.check("Borea", [0, 1, 0])
        self.check("Corda", [0, 2, 0])
        self.check("Hes", [0, 7, 0])

    def test_without_shores_but_a_stroke(self):
        for word in ("Alb/", "Alb/north", "Borea/a", "Cor/", "Cor//"):
            self.check(word, [-3])

    def test_with_shores(self):
        self.check("Del/north", [0, 3, 0])
        self.check("Delos/south", [0, 3, 1])
        self.check("Gal/a", [0, 6, 0])
        self.check("Gallia/d", [0, 6, 3])

    def test_with_shores_but_no_such_one(self):
        for word in ("Del", "Delos", "Del/", "Del/a", "Del/nort", "Del/norths", "Del/north/", "Del//north",
                     "Del/north/south", "Gal/e", "Gal/ab", "Gal/A"):
            self.check(word, [-3])

    def test_no_such_province(self):
        for word in ("", "/", "/north", "De/north", "Nov", "alb", "Alb ", " Alb", "Al", "A" * 40, "Reds"):
            self.check(word, [-3])
        for byte in (0, 10, 31, 63, 127, 255):
            self.check(list(b"Alb") + [byte], [-3])
            self.check(list(b"Del/north") + [byte], [-3])

    def test_empty_board(self):
        self.assertEqual(run(place("Alb"), place("")), [[-3], [-3]])


if __name__ == "__main__":
    unittest.main()
