"""The interface: how calls and answers lie in their lists, and its greatest lists."""

import contextlib
import io
import unittest

from provinceboard.desk import answers
from tests.helper import BOARD, BIG, far, find, lines, near, place, power, province, read, run, show
from tests.test_bounds import armies, joins, powers, provinces, sails, two


def flat(*calls):
    return [number for call in calls for number in call]


def full_text(size):
    """A text of just that many bytes with a board that no line can be put to."""
    shores = " aaaaaaaa bbbbbbbb cccccccc dddddddd"
    centres = [f"centre S{two(n)} P{two(n % 7)}" for n in range(40)]
    text = lines(*powers(7), *provinces("coast", 40, shores), *joins(300), *sails(300, "/c"),
                 *centres, *armies(24)).replace("/c", "/cccccccc")
    left = size - len(text)
    assert left > 2
    return text + "\n#" + "~" * (left - 2)


class Lists(unittest.TestCase):
    def test_the_answers_lie_one_behind_another(self):
        calls = flat(read("land Albia Alb\npower Reds"), find("Al"), place("Alb"), province(0), power(0),
                     near(0, 0), far(0, 0, 0, 0, 0), province(1), place("x"), read("x"), show())
        printed = list(b"power Reds\nland Albia Alb\n")
        self.assertEqual(answers(calls), flat(
            [2, 0, 1], [3, 0, 1, 0], [3, 0, 0, 0], [15, 0, 0, 0, -1, 0, 5] + list(b"Albia") + [3] + list(b"Alb"),
            [6, 0, 4] + list(b"Reds"), [2, 0, 0], [2, 0, 0], [1, -1], [1, -3], [3, 1, 1, 1],
            [2 + len(printed), 0, len(printed)] + printed))

    def test_any_call_may_be_the_first(self):
        self.assertEqual(answers(show()), [2, 0, 0])
        self.assertEqual(answers(find("")), [2, 0, 0])
        self.assertEqual(answers(place("")), [1, -3])
        self.assertEqual(answers(province(0)), [1, -1])
        self.assertEqual(answers(power(0)), [1, -1])
        self.assertEqual(answers(near(0, 0)), [1, -1])
        self.assertEqual(answers(far(0, 0, 0, 0, 0)), [1, -1])
        self.assertEqual(answers(read("")), [2, 0, 0])

    def test_calls_in_order_on_one_board(self):
        taken = run(find("Alb"), read("land Albia Alb"), find("Alb"), read("land Nova Nov\nland Albia Alb"),
                    find("Alb"), read("land Nova"), find("Alb"), read(""), find("Alb"))
        self.assertEqual(taken[0::2], [[0, 0], [0, 1, 0], [0, 1, 1], [0, 1, 1], [0, 0]])

    def test_a_refusal_is_alone_and_changes_nothing(self):
        refused = [province(8), power(2), near(3, 0), near(0, 0, 1), far(1, 0, 0, 1, 0), place("Nov")]
        taken = run(read(BOARD), show(), *refused, show())
        self.assertEqual(taken[2:-1], [[-1], [-1], [-1], [-1], [-5], [-3]])
        self.assertEqual(taken[1], taken[-1])

    def test_bytes_that_look_like_calls(self):
        taken = run(find([7, 1, 2, 3]), place([0, 1, 2]), read([4, 0]), find([1] * 40), province(0))
        self.assertEqual(taken, [[0, 0], [-3], [1, 1, 1], [0, 0], [-1]])

    def test_each_call_ends_where_its_form_says(self):
        for call in (read("x"), show(), find("x"), place("x"), province(9), power(9), near(9, 9), far(9, 9, 9, 9, 9),
                     [8, 9, 9, 9, 9, 9], [9, 3, 9, 9, 9], [9, 0], [10, 9, 2, 65, 98, 3, 65, 98, 99], [10, 9, 0, 0],
                     [11], [12, 9], [13], [14]):
            taken = run(read(BOARD), call, place("Gal/c"), call, find("Hes"))
            self.assertEqual((taken[0], taken[2], taken[4]), ([0, 8], [0, 6, 2], [0, 1, 7]), call)

    def test_what_is_handed_in_is_not_changed(self):
        calls = flat(read(BOARD), show(), find("A"), place("Gal/a"), province(6), power(1), near(1, 1),
                     far(2, 0, 0, 6, 0), read("x"))
        before = list(calls)
        first = answers(calls)
        self.assertEqual(calls, before)
        self.assertIsNot(first, calls)

    def test_the_same_list_twice(self):
        calls = flat(show(), province(0), find("A"), read(BOARD), show(), near(2, 3))
        first = answers(calls)
        copy = list(first)
        first.append(0)
        self.assertEqual(answers(calls), copy)

    def test_nothing_is_kept_for_another_list(self):
        answers(read(BOARD))
        self.assertEqual(run(show(), find("Alb"), power(0)), [[0, 0], [0, 0], [-1]])

    def test_nothing_is_printed(self):
        out, err = io.StringIO(), io.StringIO()
        with contextlib.redirect_stdout(out), contextlib.redirect_stderr(err):
            answers(flat(read(BOARD), show(), read("x"), province(-1)))
        self.assertEqual((out.getvalue(), err.getvalue()), ("", ""))

    def test_greatest_numbers(self):
        for number in (BIG, -BIG):
            taken = run(read(BOARD), province(number), power(number), near(number, number, number),
                        far(number, number, number, number, number), near(1, 3, number), far(1, 3, 0, 3, number))
            self.assertEqual(taken[1:], [[-1]] * 6)


class GreatestLists(unittest.TestCase):
    def test_the_longest_text_and_the_longest_list(self):
        text = full_text(16900)
        calls = [read(text)] + [show()] * 39 + [find("A" * 40), find("S" * 15)]
        self.assertEqual(len(flat(*calls)), 17000)
        taken = run(*calls)
        self.assertEqual(taken[0], [0, 40])
        printed = text[:text.index("\n#") + 1]
        self.assertEqual(taken[1:40], [[0, len(printed)] + list(printed.encode())] * 39)
        self.assertEqual(taken[40:], [[0, 0], [0, 0]])

    def test_the_longest_text_wrong_at_its_end(self):
        text = full_text(16890)
        number = text.count("\n") + 2
        self.assertEqual(run(read(text + "\npower Pzz"), province(0)), [[1, number, 6], [-1]])

    def test_a_text_of_line_ends_alone(self):
        self.assertEqual(run(read("\n" * 16900)), [[0, 0]])
        self.assertEqual(run(read("\n" * 16899 + "x")), [[1, 16900, 1]])

    def test_a_text_of_blanks_and_of_one_word(self):
        self.assertEqual(run(read(" " * 16900)), [[0, 0]])
        self.assertEqual(run(read("x" * 16900)), [[1, 1, 1]])
        self.assertEqual(run(read("power " + "x " * 8447)), [[1, 1, 1]])

    def test_four_hundred_calls(self):
        text = full_text(16900).replace("aaaaaaaa", "a").replace("cccccccc", "c").rstrip("~")
        calls = [read(text)] + [far(1, n % 40, 2, 39 - n % 40, 2) for n in range(399)]
        self.assertLessEqual(len(flat(*calls)), 17000)
        self.assertEqual(len(calls), 400)
        taken = run(*calls)
        self.assertEqual(taken[0], [0, 40])
        self.assertEqual(taken[1], [0, 1])
        self.assertEqual(taken[20], [0, 2])

    def test_forty_reads(self):
        text = lines(*provinces("coast", 20), "join Saa Sab")
        calls = [read(text)] * 40 + [near(0, 0)] * 360
        self.assertLessEqual(len(flat(*calls)), 17000)
        self.assertEqual(run(*calls), [[0, 20]] * 40 + [[0, 1, 1]] * 360)


if __name__ == "__main__":
    unittest.main()
