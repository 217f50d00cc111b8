"""rename: a province's new name and short name."""

import unittest

from tests.helper import (BIG, BOARD, counts, find, homes, lines, near, on, parts, place, province, read, rename, row, run,
                          show, starts, way)

# Of 0 and 1 both words may be either one's form; 2 has shores.
WORDS = lines("land Abc Xyz", "sea Def Uvw", "coast Delos Del north south", "sail Def Del/south")


def named(answer):
    """The name and short name that province answered."""
    size = answer[5]
    return (bytes(answer[6:6 + size]).decode(), bytes(answer[7 + size:10 + size]).decode())


class Done(unittest.TestCase):
    def renamed(self, text, i, name, short):
        """The pair of words that the province has once the call is done."""
        taken = on(text, rename(i, name, short), province(i))
        self.assertEqual(taken[0], [0], (i, name, short))
        self.assertEqual(named(taken[1]), (name, short))

    def test_both_words_new(self):
        for i in range(8):
            self.renamed(BOARD, i, "Nova", "Nov")

    def test_find(self):
        taken = on(BOARD, rename(3, "Nova", "Neu"), find("Nova"), find("Neu"), find("No"), find("N"), find("Delos"),
                   find("Del"), find("D"), find("Ne"))
        self.assertEqual(taken[1:], [[0, 1, 3]] * 4 + [[0, 0]] * 4)

    def test_place(self):
        taken = on(BOARD, rename(3, "Nova", "Neu"), place("Nova/south"), place("Neu/north"), place("Delos/south"),
                   place("Del/north"), place("Neu"))
        self.assertEqual(taken[1:], [[0, 3, 1], [0, 3, 0], [-3], [-3], [-3]])

    def test_province(self):
        taken = on(BOARD, rename(6, "Nova", "Neu"), rename(0, "Om", "Omm"), province(6), province(0))
        self.assertEqual(taken[2], [0, 2, 0, -1, 4] + row("Nova") + row("Neu") + row("a") + row("b") + row("c") + row("d"))
        self.assertEqual(taken[3], [0, 0, 1, 1, 0] + row("Om") + row("Omm"))

    def test_print_and_read_again(self):
        taken = on(BOARD, show(), rename(3, "Nova", "Neu"), show())
        before = bytes(taken[0][2:]).decode()
        after = before.replace("Delos Del", "Nova Neu").replace("Del", "Neu")
        self.assertEqual(bytes(taken[2][2:]).decode(), after)
        calls = [show(), province(3), starts(), parts(), counts(), homes(1), near(2, 3), place("Neu/south"), find("Del")]
        self.assertEqual(on(after, *calls), on(BOARD, rename(3, "Nova", "Neu"), *calls)[1:])

    def test_all_else_stays(self):
        calls = [starts(), parts(), counts(), homes(0), homes(1), near(0, 3), near(1, 3), near(2, 3), way(2, 0, 0, 6, 0),
                 province(2), province(4), find("Corda"), find("Ebo")]
        self.assertEqual(on(BOARD, rename(3, "Nova", "Neu"), *calls)[1:], on(BOARD, *calls))

    def test_the_own_words_kept(self):
        self.renamed(BOARD, 3, "Delos", "Del")
        taken = on(BOARD, show(), rename(3, "Delos", "Del"), show(), find("Del"), find("Delos"))
        self.assertEqual(taken[0], taken[2])
        self.assertEqual(taken[3:], [[0, 1, 3], [0, 1, 3]])

    def test_one_word_kept(self):
        taken = on(BOARD, rename(3, "Nova", "Del"), find("Nova"), find("Del"), find("Delos"), place("Del/north"))
        self.assertEqual(taken, [[0], [0, 1, 3], [0, 1, 3], [0, 0], [0, 3, 0]])
        taken = on(BOARD, rename(3, "Delos", "Neu"), find("Delos"), find("Neu"), find("Del"), place("Neu/north"))
        self.assertEqual(taken, [[0], [0, 1, 3], [0, 1, 3], [0, 1, 3], [0, 3, 0]])
        self.assertEqual(on(BOARD, rename(3, "Delos", "Neu"), place("Del/north"))[1], [-3])

    def test_the_own_words_exchanged(self):
        self.renamed(WORDS, 0, "Xyz", "Abc")
        taken = on(WORDS, rename(0, "Xyz", "Abc"), find("Xyz"), find("Abc"), find("Xy"), find("Ab"), show())
        self.assertEqual(taken[1:5], [[0, 1, 0], [0, 1, 0], [0, 1, 0], [0, 0]])
        self.assertTrue(bytes(taken[5][2:]).startswith(b"land Xyz Abc\n"))

    def test_the_short_name_becomes_the_name(self):
        taken = on(WORDS, rename(0, "Xyz", "Neu"), find("Xyz"), find("Neu"), find("Abc"))
        self.assertEqual(taken, [[0], [0, 1, 0], [0, 1, 0], [0, 0]])

    def test_the_name_becomes_the_short_name(self):
        taken = on(WORDS, rename(0, "Nova", "Abc"), find("Nova"), find("Abc"), find("Xyz"))
        self.assertEqual(taken, [[0], [0, 1, 0], [0, 1, 0], [0, 0]])

    def test_words_that_were_given_up_are_free(self):
        taken = on(WORDS, rename(0, "Nova", "Neu"), rename(1, "Abc", "Xyz"), rename(0, "Uvw", "Def"), find("Abc"),
                   find("Xyz"), find("Uvw"), find("Def"), find("Nova"), find("Neu"))
        self.assertEqual(taken, [[0]] * 3 + [[0, 1, 1], [0, 1, 1], [0, 1, 0], [0, 1, 0], [0, 0], [0, 0]])

    def test_several_times(self):
        taken = on(WORDS, rename(1, "Nova", "Neu"), rename(1, "Ozon", "Ozo"), rename(1, "Def", "Uvw"), show())
        self.assertEqual(taken, [[0]] * 3 + on(WORDS, show()))

    def test_a_powers_name_or_a_shores_letters_are_free(self):
        self.renamed(BOARD, 0, "Reds", "Nov")
        self.renamed(BOARD, 0, "North", "Nov")

    def test_names_that_begin_like_others(self):
        self.renamed(BOARD, 0, "Cordaa", "Cox")
        self.renamed(BOARD, 0, "Co", "Cox")
        self.assertEqual(on(BOARD, rename(0, "Cordaa", "Cox"), find("Corda"), find("Cord"))[1:], [[0, 1, 2], [0, 2, 0, 2]])

    def test_the_edges_of_the_forms(self):
        for name in ("Xy", "X" + "y" * 15, "Az", "Za", "Xya"):
            self.renamed(BOARD, 7, name, "Xyz")
        for short in ("Aaa", "Zzz", "Aza"):
            self.renamed(BOARD, 7, "Nova", short)


class Refused(unittest.TestCase):
    def refused(self, text, why, i, name, short):
        taken = on(text, show(), rename(i, name, short), show(), find("Albia"), find("Alb"))
        self.assertEqual(taken[1], [why], (i, name, short))
        self.assertEqual(taken[0], taken[2])
        self.assertEqual(taken[3:], on(text, find("Albia"), find("Alb")))

    def test_first_word_no_name(self):
        for word in ("", "X", "X" + "y" * 16, "xy", "XY", "XyZ", "X1", "X/y", "Xy/", " Xy", "Xy ", "X" + "y" * 39,
                     "#xy", "x" * 40):
            self.refused(BOARD, -2, 3, word, "Nov")
        for byte in (0, 10, 31, 32, 63, 64, 91, 96, 123, 127, 128, 255):
            self.refused(BOARD, -2, 3, [88, 121, byte], "Nov")
            self.refused(BOARD, -2, 3, [byte, 121], "Nov")

    def test_second_word_no_short_name(self):
        for word in ("", "X", "Xy", "Xyzz", "xyz", "XYz", "XyZ", "Xy1", "1yz", "Xy/", "Xy ", "X" + "y" * 39, "#yz"):
            self.refused(BOARD, -2, 3, "Nova", word)
        for byte in (0, 10, 31, 32, 63, 64, 91, 96, 123, 127, 128, 255):
            self.refused(BOARD, -2, 3, "Nova", [88, 121, byte])
            self.refused(BOARD, -2, 3, "Nova", [byte, 121, 122])

    def test_both_words_wrong_or_exchanged(self):
        self.refused(BOARD, -2, 3, "", "")
        self.refused(BOARD, -2, 3, "y" * 40, "z" * 40)
        self.refused(BOARD, -2, 3, "Nov", "Nova")

    def test_both_words_the_same(self):
        self.refused(BOARD, -4, 3, "Nov", "Nov")
        self.refused(BOARD, -4, 3, "Del", "Del")
        self.refused(WORDS, -4, 0, "Abc", "Abc")

    def test_another_provinces_words(self):
        self.refused(BOARD, -4, 3, "Albia", "Nov")
        self.refused(BOARD, -4, 3, "Hesper", "Del")
        self.refused(BOARD, -4, 3, "Alb", "Nov")
        self.refused(BOARD, -4, 3, "Nova", "Alb")
        self.refused(BOARD, -4, 3, "Delos", "Hes")
        self.refused(BOARD, -4, 3, "Albia", "Alb")
        self.refused(WORDS, -4, 0, "Nova", "Def")
        self.refused(WORDS, -4, 0, "Nova", "Uvw")
        self.refused(WORDS, -4, 0, "Def", "Neu")
        self.refused(WORDS, -4, 0, "Uvw", "Neu")
        self.refused(WORDS, -4, 1, "Xyz", "Abc")

    def test_a_word_that_rename_gave(self):
        taken = on(WORDS, rename(1, "Nova", "Neu"), rename(0, "Nova", "Xyz"), rename(0, "Abc", "Neu"),
                   rename(0, "Neu", "Xyz"), rename(0, "Def", "Uvw"))
        self.assertEqual(taken, [[0], [-4], [-4], [-4], [0]])

    def test_out_of_range(self):
        for i in (-1, 8, 9, BIG, -BIG):
            self.refused(BOARD, -1, i, "Nova", "Nov")
        self.assertEqual(run(rename(0, "Nova", "Nov"), show()), [[-1], [0, 0]])

    def test_their_order(self):
        self.refused(BOARD, -1, 8, "nova", "Nov")
        self.refused(BOARD, -1, 8, "Nov", "Nov")
        self.refused(BOARD, -1, -1, "Albia", "")
        self.refused(BOARD, -2, 3, "Albia", "")
        self.refused(BOARD, -2, 3, "nov", "nov")
        self.refused(BOARD, -2, 3, "nova", "Alb")
        self.refused(BOARD, -2, 3, "Albia", "Albia")


class Boards(unittest.TestCase):
    def test_a_wrong_read_leaves_the_new_words(self):
        taken = run(read(BOARD), rename(0, "Nova", "Nov"), show(), read("land Albia Alb\nland"), show(), find("Nov"),
                    find("Albia"))
        self.assertEqual(taken[3], [1, 2, 1])
        self.assertEqual(taken[2], taken[4])
        self.assertEqual(taken[5:], [[0, 1, 0], [0, 0]])

    def test_a_right_read_has_its_own_words(self):
        taken = run(read(BOARD), rename(0, "Nova", "Nov"), read(BOARD), find("Nov"), find("Albia"), province(0))
        self.assertEqual(taken[3:5], [[0, 0], [0, 1, 0]])
        self.assertEqual(named(taken[5]), ("Albia", "Alb"))

    def test_a_text_is_read_by_its_own_words(self):
        taken = run(read(BOARD), rename(0, "Nova", "Nov"), read("land Nova Nov\nland Albia Alb\njoin Nov Alb"), find("Alb"))
        self.assertEqual(taken[2:], [[0, 2], [0, 1, 1]])
        self.assertEqual(run(read(BOARD), rename(0, "Nova", "Nov"), read("centre Nov"))[2], [1, 1, 3])


if __name__ == "__main__":
    unittest.main()
