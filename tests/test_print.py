"""print: the one form of a board."""

import unittest

from tests.helper import BOARD, lines, run, show, shown

PRINTED = """\
power Reds
power Blues
land Albia Alb
sea Borea Bor
coast Corda Cor
coast Delos Del north south
land Eboria Ebo
sea Fennel Fen
coast Gallia Gal a b c d
land Hesper Hes
join Alb Cor
join Cor Del
join Del Ebo
sail Bor Cor
sail Bor Del/north
sail Bor Gal/a
sail Bor Gal/d
sail Del/south Fen
sail Fen Gal/c
centre Alb Blues
centre Cor
start Reds army Del
start Blues fleet Gal/d
"""


class Print(unittest.TestCase):
    def test_empty_board(self):
        self.assertEqual(run(show()), [[0, 0]])
        self.assertEqual(shown("# nothing\n\n"), "")

    def test_each_kind_of_line(self):
        self.assertEqual(shown(BOARD), PRINTED)

    def test_the_bytes_are_counted(self):
        taken = run([0, 15] + list(b"land Albia Alb "), show())
        self.assertEqual(taken[1], [0, 15] + list(b"land Albia Alb\n"))

    def test_told_in_another_order(self):
        text = lines(
            "coast Zulu Zul west east mid", "", "sea Yoke Yok", "coast Xray Xra", "power Golds", "coast Whisky Whi",
            "join Whi Xra", "join Xra Zul", "sail Yok Zul/mid", "sail Xra Yok", "sail Yok Zul/west", "join Whi Zul",
            "sail Whi Zul/east", "sail Zul/east Xra", "power Blacks", "centre Whi", "start Blacks fleet Zul/east",
            "centre Zulu Blacks", "start Golds army Whisky", "start Blacks fleet Yok", "sail Zul/mid Whi",
            "centre Xra Golds", "power Alphas", "land Able Abl",
        )
        self.assertEqual(shown(text), lines(
            "power Golds", "power Blacks", "power Alphas",
            "coast Zulu Zul west east mid", "sea Yoke Yok", "coast Xray Xra", "coast Whisky Whi", "land Able Abl",
            "join Zul Xra", "join Zul Whi", "join Xra Whi",
            "sail Zul/west Yok", "sail Zul/east Xra", "sail Zul/east Whi", "sail Zul/mid Yok", "sail Zul/mid Whi",
            "sail Yok Xra",
            "centre Zul Blacks", "centre Xra Golds", "centre Whi",
            "start Blacks fleet Zul/east", "start Golds army Whi", "start Blacks fleet Yok", ""))

    def test_second_places_by_number_not_by_name(self):
        text = lines("sea Borea Bor", "coast Zulu Zul z y x", "coast Able Abl",
                     "sail Abl Bor", "sail Zul/x Bor", "sail Zul/y Bor", "sail Zul/z Bor")
        self.assertEqual(shown(text).split("\n")[3:7], ["sail Bor Zul/z", "sail Bor Zul/y", "sail Bor Zul/x",
                                                        "sail Bor Abl"])

    def test_an_army_has_no_shore(self):
        text = lines("power Reds", "coast Delos Del north south", "start Reds army Delos")
        self.assertTrue(shown(text).endswith("\nstart Reds army Del\n"))

    def test_printed_and_read_again(self):
        for text in ("", "land Albia Alb", BOARD, PRINTED):
            once = shown(text)
            self.assertEqual(shown(once), once)

    def test_print_changes_nothing(self):
        taken = run(*[[0, len(BOARD)] + list(BOARD.encode()), show(), show()])
        self.assertEqual(taken[1], taken[2])


if __name__ == "__main__":
    unittest.main()
