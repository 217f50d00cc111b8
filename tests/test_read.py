"""read: what is a right text, and the first wrong line and why."""

import unittest

from tests.helper import BOARD, lines, on, province, read, run, show, shown

START = ("power Reds", "land Albia Alb", "sea Borea Bor", "coast Corda Cor", "coast Delos Del north south")


def answer(text):
    return run(read(text))[0]


class ReadCase(unittest.TestCase):
    def right(self, text, count):
        self.assertEqual(answer(text), [0, count], text)

    def wrong(self, text, line, why):
        self.assertEqual(answer(text), [1, line, why], text)

    def right_behind(self, *texts):
        self.right(lines(*START, *texts), 4 + sum(text.split()[0] in ("land", "sea", "coast") for text in texts))

    def wrong_behind(self, why, *texts):
        """The last line is wrong, and no line before it."""
        self.wrong(lines(*START, *texts), len(START) + len(texts), why)


class RightTexts(ReadCase):
    def test_all_kinds_of_lines(self):
        self.right(BOARD, 8)

    def test_empty_text_is_one_line_that_says_nothing(self):
        self.right("", 0)

    def test_lines_that_say_nothing(self):
        for text in ("\n", "\n\n\n", "   ", "#", "# power", "  #power Reds", "#\n \n\n#", "#~!\"%"):
            self.right(text, 0)
        self.right("\n\nland Albia Alb\n\n# a remark\n  \nsea Borea Bor\n", 2)

    def test_a_remark_is_the_first_word_alone(self):
        self.wrong("power #Reds", 1, 1)
        self.wrong("land Albia Alb #it", 1, 1)
        self.wrong("land Albia #", 1, 1)

    def test_blanks_in_front_behind_and_between(self):
        self.right("   land    Albia  Alb     \n  coast   Corda Cor  a    b ", 2)
        self.assertEqual(shown("   land    Albia  Alb     \n  coast   Corda Cor  a    b "),
                         "land Albia Alb\ncoast Corda Cor a b\n")

    def test_last_line_may_be_ended_or_not(self):
        self.right("land Albia Alb", 1)
        self.right("land Albia Alb\n", 1)

    def test_name_or_short_name_tells_a_province(self):
        self.right_behind("join Albia Cor", "sail Borea Delos/north", "sail Bor Del/south", "centre Corda",
                          "centre Alb Reds", "start Reds army Albia", "start Reds fleet Delos/south")


class NewBoard(unittest.TestCase):
    def test_a_right_text_is_the_board_from_now_on(self):
        taken = run(read("land Albia Alb"), read("sea Borea Bor\nsea Fennel Fen"), show())
        self.assertEqual(taken[1], [0, 2])
        self.assertEqual(bytes(taken[2][2:]), b"sea Borea Bor\nsea Fennel Fen\n")

    def test_nothing_of_the_board_before_is_left(self):
        taken = run(read(BOARD), read(BOARD), read(""), show(), province(0))
        self.assertEqual(taken, [[0, 8], [0, 8], [0, 0], [0, 0], [-1]])

    def test_a_wrong_text_leaves_the_board(self):
        before = on(BOARD, show())[0]
        for text in ("land Nova Nov\nland", "\t", "join Alb Bor", "power Greens\nland Albia Alb\njoin Alb Alb"):
            taken = run(read(BOARD), read(text), show())
            self.assertEqual(taken[1][0], 1)
            self.assertEqual(taken[2], before)

    def test_a_wrong_text_leaves_the_empty_board(self):
        self.assertEqual(run(read("land Albia Alb\nland"), show()), [[1, 2, 1], [0, 0]])


class Bytes(ReadCase):
    def test_bytes_at_the_bounds(self):
        for byte, right in ((0, False), (9, False), (11, False), (13, False), (31, False), (32, True), (33, True),
                            (37, True), (63, True), (126, True), (127, False), (128, False), (255, False)):
            for head in ("#", "# x", "   #"):
                text = list(head.encode()) + [byte]
                self.assertEqual(answer(text), [0, 0] if right else [1, 1, 1], (head, byte))

    def test_wrong_bytes_outside_remarks(self):
        for byte in (0, 9, 13, 31, 127, 255):
            self.assertEqual(answer([byte]), [1, 1, 1])
            self.assertEqual(answer([32, byte, 32]), [1, 1, 1])
            self.assertEqual(answer(list(b"land Albia Alb\nland Eboria Ebo") + [byte]), [1, 2, 1])
            self.assertEqual(answer(list(b"land Albia Alb\nland") + [byte] + list(b"Eboria Ebo")), [1, 2, 1])

    def test_a_wrong_byte_goes_before_all_other_reasons(self):
        self.wrong("land Albia Alb\njoin Alb Alb\x7f", 2, 1)
        self.wrong("power Reds\npower Reds \t", 2, 1)

    def test_printed_bytes_that_no_name_has(self):
        for byte in (33, 48, 57, 63, 64, 91, 96, 123, 126):
            self.assertEqual(answer(list(b"power Re") + [byte]), [1, 1, 1])
            self.assertEqual(answer([byte] + list(b"power Reds")), [1, 1, 1])
            self.assertEqual(answer(list(b"power ") + [byte] + list(b"eds")), [1, 1, 1])
            self.assertEqual(answer(list(b"coast Corda Cor a ") + [byte]), [1, 1, 1])
            self.assertEqual(answer(list(b"land Albia Alb\ncentre Alb") + [byte]), [1, 2, 3])


class Form(ReadCase):
    def test_first_word(self):
        for text in ("Power Reds", "powers Reds", "powe Reds", "x", "/", "lake Albia Alb", "LAND Albia Alb",
                     "center Alb", "army Alb", "fleet", "Albia"):
            self.wrong_behind(1, text)

    def test_count_of_words(self):
        for text in ("power", "power Greens Golds", "land", "land Nova", "land Nova Nov north",
                     "land Nova Nov north south", "sea", "sea Nova", "sea Nova Nov north", "sea Nova Nov north south",
                     "coast", "coast Nova", "join", "join Alb", "join Alb Cor Del", "sail", "sail Bor",
                     "sail Bor Cor Del/north", "centre", "centre Alb Reds Reds", "start", "start Reds",
                     "start Reds army", "start Reds army Alb Cor", "start army Alb"):
            self.wrong_behind(1, text)

    def test_power(self):
        for word in ("Ab", "A" + "b" * 11, "Zz", "Az", "Za"):
            self.right_behind("power " + word)
        for word in ("A", "A" + "b" * 12, "ab", "AB", "AbC", "Ab1", "1b", "A/b", "aB"):
            self.wrong_behind(1, "power " + word)

    def test_name(self):
        for kind in ("land", "sea", "coast"):
            for word in ("Xy", "X" + "y" * 15, "Xyz"):
                self.right_behind(kind + " " + word + " Nov")
            for word in ("X", "X" + "y" * 16, "xy", "XY", "XyZ", "X1", "X/y", "Xy/"):
                self.wrong_behind(1, kind + " " + word + " Nov")

    def test_short(self):
        for kind in ("land", "sea", "coast"):
            for word in ("Xaz", "Zza", "Nov"):
                self.right_behind(kind + " Nova " + word)
            for word in ("X", "Xy", "Xyzz", "xyz", "XYz", "XyZ", "Xy1", "1yz", "Xy/"):
                self.wrong_behind(1, kind + " Nova " + word)

    def test_shore(self):
        for word in ("a", "z", "abcdefgh", "zzzzzzzz"):
            self.right_behind("coast Nova Nov " + word + " other")
            self.right_behind("coast Nova Nov other " + word)
        for word in ("abcdefghi", "A", "Ab", "aB", "a1", "a/b", "/"):
            for shores in ((word, "x"), ("x", word), ("x", "y", word), ("x", "y", "z", word)):
                self.wrong_behind(1, "coast Nova Nov " + " ".join(shores))

    def test_count_of_shores(self):
        for count, right in ((0, True), (1, False), (2, True), (3, True), (4, True), (5, False)):
            text = " ".join(["coast Nova Nov"] + ["v", "w", "x", "y", "z"][:count])
            if right:
                self.right_behind(text)
            else:
                self.wrong_behind(1, text)

    def test_shores_alike(self):
        for shores in ("a a", "a b a", "a b b", "a a b", "a b c a", "a b c b", "a b c c", "a a a a"):
            self.wrong_behind(1, "coast Nova Nov " + shores)
        self.right_behind("coast Nova Nov a b", "coast Ozon Ozo a b", "coast Pella Pel b a north south")

    def test_army_or_fleet(self):
        for word in ("Army", "armies", "FLEET", "x", "Alb", "/"):
            self.wrong_behind(1, "start Reds " + word + " Cor")
        self.wrong_behind(1, "start army Reds Cor")


class Taken(ReadCase):
    def test_power_twice(self):
        self.wrong_behind(2, "power Reds")
        self.wrong_behind(2, "power Blues", "power Greens", "power Blues")

    def test_power_may_be_called_like_a_province(self):
        self.right_behind("power Albia", "power Alb", "land Reds Red")

    def test_name_and_short_the_same(self):
        for kind in ("land", "sea", "coast"):
            self.wrong_behind(2, kind + " Nov Nov")
        self.wrong_behind(2, "coast Nov Nov a b")

    def test_name_or_short_taken(self):
        for kind in ("land", "sea", "coast"):
            for words in ("Albia Nov", "Borea Nov", "Nova Alb", "Nova Del", "Alb Nov", "Albia Alb", "Alb Cor"):
                self.wrong_behind(2, kind + " " + words)
        self.wrong_behind(2, "land Xyz Nov", "sea Nova Xyz")
        self.wrong_behind(2, "coast Alb Nov a b")

    def test_names_that_only_begin_alike(self):
        self.right_behind("land Albi Abi", "land Albiaa Aba", "land Al Abl")


class Unknown(ReadCase):
    def test_join(self):
        for text in ("join Alb Nov", "join Nov Alb", "join Nov Nov", "join alb Cor", "join Alb Del/north",
                     "join Del/south Alb", "join Alb/ Cor", "join Alb Reds", "join # Alb", "join Al Cor"):
            self.wrong_behind(3, text)

    def test_a_province_told_later(self):
        self.wrong(lines(*START, "join Alb Nov", "land Nova Nov"), 6, 3)

    def test_sail(self):
        for text in ("sail Bor Nov", "sail Nov Bor", "sail Bor Del", "sail Del Bor", "sail Bor Del/", "sail Bor Del/x",
                     "sail Bor Del/nort", "sail Bor Del/norths", "sail Bor Del/north/", "sail Bor Del/north/south",
                     "sail Bor Del//north", "sail Bor /north", "sail Bor /", "sail Bor Cor/", "sail Bor Cor/north",
                     "sail Bor/north Cor", "sail Bor/ Cor", "sail Bor Del/North", "sail Alb/x Bor"):
            self.wrong_behind(3, text)

    def test_centre(self):
        for text in ("centre Nov", "centre Nov Reds", "centre Alb Blues", "centre Alb Red", "centre Del/north",
                     "centre Alb Alb", "centre Alb reds"):
            self.wrong_behind(3, text)

    def test_start(self):
        for text in ("start Blues army Alb", "start Reds army Nov", "start Blues army Nov", "start Reds fleet Nov",
                     "start Reds fleet Del", "start Reds fleet Del/x", "start Reds army Del/north",
                     "start Reds fleet Cor/north", "start Blues fleet Cor", "start Reds fleet Bor/"):
            self.wrong_behind(3, text)


class Unfit(ReadCase):
    def test_join(self):
        for text in ("join Alb Alb", "join Alb Albia", "join Bor Alb", "join Alb Bor", "join Bor Bor", "join Del Delos"):
            self.wrong_behind(4, text)
        self.wrong_behind(4, "sea Fennel Fen", "join Bor Fen")

    def test_sail(self):
        for text in ("sail Bor Bor", "sail Bor Borea", "sail Del/north Del/north", "sail Del/north Del/south",
                     "sail Alb Bor", "sail Bor Alb", "sail Alb Cor", "sail Alb Alb", "sail Cor Corda"):
            self.wrong_behind(4, text)

    def test_centre(self):
        self.wrong_behind(4, "centre Bor")
        self.wrong_behind(4, "centre Borea Reds")

    def test_start(self):
        self.wrong_behind(4, "start Reds army Bor")
        self.wrong_behind(4, "start Reds fleet Alb")

    def test_what_fits(self):
        self.right_behind("join Alb Cor", "join Cor Del", "sail Bor Cor", "sail Cor Del/north", "sail Cor Del/south",
                          "centre Alb", "centre Cor", "centre Del", "start Reds army Alb", "start Reds fleet Bor",
                          "start Reds fleet Cor", "start Reds army Del")
        self.right_behind("sea Fennel Fen", "sail Bor Fen", "land Nova Nov", "join Alb Nov")


class Twice(ReadCase):
    def test_join(self):
        self.wrong_behind(5, "join Alb Cor", "join Alb Cor")
        self.wrong_behind(5, "join Alb Cor", "join Corda Albia")

    def test_sail(self):
        self.wrong_behind(5, "sail Bor Cor", "sail Bor Cor")
        self.wrong_behind(5, "sail Bor Cor", "sail Cor Bor")
        self.wrong_behind(5, "sail Bor Del/south", "sail Delos/south Bor")
        self.right_behind("sail Bor Del/north", "sail Bor Del/south", "sail Cor Del/north", "sail Bor Cor")

    def test_links_of_land_and_sea_are_apart(self):
        self.right_behind("join Cor Del", "sail Del/north Cor", "sail Cor Del/south")

    def test_centre(self):
        self.wrong_behind(5, "centre Alb", "centre Alb")
        self.wrong_behind(5, "centre Alb", "centre Albia Reds")
        self.wrong_behind(5, "centre Alb Reds", "centre Alb")

    def test_start(self):
        self.wrong_behind(5, "power Blues", "start Reds army Cor", "start Blues army Cor")
        self.wrong_behind(5, "start Reds army Cor", "start Reds fleet Cor")
        self.wrong_behind(5, "start Reds fleet Del/north", "start Reds fleet Del/south")
        self.wrong_behind(5, "start Reds fleet Del/south", "start Reds army Del")


class FirstReason(ReadCase):
    def test_form_before_taken(self):
        self.wrong_behind(1, "power Reds Reds")
        self.wrong_behind(1, "land Albia Alb x")
        self.wrong_behind(1, "coast Albia Alb a")
        self.wrong_behind(1, "coast Nov Nov a a")

    def test_form_before_unknown(self):
        self.wrong_behind(1, "join Nov")
        self.wrong_behind(1, "start Blues navy Nov")

    def test_unknown_before_unfit(self):
        self.wrong_behind(3, "join Nov Nov")
        self.wrong_behind(3, "join Bor Nov")
        self.wrong_behind(3, "sail Alb Nov")
        self.wrong_behind(3, "centre Bor Blues")
        self.wrong_behind(3, "start Blues army Bor")
        self.wrong_behind(3, "start Blues fleet Alb")

    def test_unknown_before_twice(self):
        self.wrong_behind(3, "centre Alb", "centre Alb Blues")
        self.wrong_behind(3, "start Reds army Cor", "start Blues army Cor")
        self.wrong_behind(3, "start Reds fleet Del/north", "start Reds fleet Del")

    def test_unfit_before_twice(self):
        self.wrong_behind(4, "start Reds fleet Bor", "start Reds army Bor")
        self.wrong_behind(4, "start Reds army Alb", "start Reds fleet Alb")


class FirstLine(ReadCase):
    def test_the_first_of_two_wrong_lines(self):
        self.wrong(lines("land Albia Alb", "join Alb Alb", "power"), 2, 4)
        self.wrong(lines("land Albia Alb", "power", "join Alb Alb"), 2, 1)
        self.wrong(lines("join Alb Cor", "\t"), 1, 3)

    def test_lines_that_say_nothing_are_counted(self):
        self.wrong("\n\n# x\n   \nland", 5, 1)
        self.wrong("\n\nland\n", 3, 1)
        self.wrong("\n\t", 2, 1)

    def test_what_a_line_behind_says_counts_for_nothing(self):
        self.wrong(lines("start Reds army Alb", "power Reds", "land Albia Alb"), 1, 3)


if __name__ == "__main__":
    unittest.main()
