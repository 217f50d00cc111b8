"""The interface: how calls and answers lie in their lists, and its greatest lists."""

import contextlib
import io
import unittest

from provinceboard.desk import answers
from tests.helper import (BOARD, BIG, counts, far, find, homes, lines, near, parts, place, power, province, read, rename,
                          row, run, show, starts, symmetry, way)
from tests.test_bounds import armies, joins, powers, provinces, sails, two


def flat(*calls):
    return [number for call in calls for number in call]


def all_fifteen():
    """Each of the calls once, each of them done, on the board that the first reads."""
    return [read(BOARD), rename(3, "Nova", "Neu"), show(), find("N"), place("Neu/south"), province(3), power(1),
            near(1, 1), far(2, 0, 0, 6, 0), way(1, 2, 0, 6, 3), symmetry(*range(8)), starts(), homes(1), parts(),
            counts()]


def full_text(size):
    """A text of just that many bytes with a board that no line can be put to."""
    shores = " aaaaaaaa bbbbbbbb cccccccc dddddddd"
    centres = [f"centre S{two(n)} P{two(n % 7)}" for n in range(40)]
    text = lines(*powers(7), *provinces("coast", 40, shores), *joins(300), *sails(300, "/c"),
                 *centres, *armies(24)).replace("/c", "/cccccccc")
    left = size - len(text)
    assert left > 2
    return text + "\n#" + "~" * (left - 2)


class Lists(unittest.TestCase):
    def test_the_answers_lie_one_behind_another(self):
        calls = flat(read("land Albia Alb\npower Reds"), find("Al"), place("Alb"), province(0), power(0),
                     near(0, 0), far(0, 0, 0, 0, 0), province(1), place("x"), read("x"), show())
        printed = list(b"power Reds\nland Albia Alb\n")
        self.assertEqual(answers(calls), flat(
            [2, 0, 1], [3, 0, 1, 0], [3, 0, 0, 0], [15, 0, 0, 0, -1, 0, 5] + list(b"Albia") + [3] + list(b"Alb"),
            [6, 0, 4] + list(b"Reds"), [2, 0, 0], [2, 0, 0], [1, -1], [1, -3], [3, 1, 1, 1],
            [2 + len(printed), 0, len(printed)] + printed))

    def test_any_call_may_be_the_first(self):
        self.assertEqual(answers(show()), [2, 0, 0])
        self.assertEqual(answers(find("")), [2, 0, 0])
        self.assertEqual(answers(place("")), [1, -3])
        self.assertEqual(answers(province(0)), [1, -1])
        self.assertEqual(answers(power(0)), [1, -1])
        self.assertEqual(answers(near(0, 0)), [1, -1])
        self.assertEqual(answers(far(0, 0, 0, 0, 0)), [1, -1])
        self.assertEqual(answers(read("")), [2, 0, 0])
        self.assertEqual(answers(way(0, 0, 0, 0, 0)), [1, -1])
        self.assertEqual(answers(symmetry()), [2, 0, 1])
        self.assertEqual(answers(rename(0, "Nova", "Nov")), [1, -1])
        self.assertEqual(answers(starts()), [2, 0, 0])
        self.assertEqual(answers(homes(0)), [1, -1])
        self.assertEqual(answers(parts()), [2, 0, 0])
        self.assertEqual(answers(counts()), [7, 0, 0, 0, 0, 0, 0, 0])

    def test_all_fifteen_calls(self):
        taken = run(*all_fifteen())
        printed = bytes(taken[2][2:]).decode()
        self.assertIn("coast Nova Neu north south\n", printed)
        self.assertIn("sail Bor Neu/north\n", printed)
        self.assertNotIn("Del", printed)
        self.assertEqual(taken[:2] + taken[3:], [
            [0, 8], [0], [0, 1, 3], [0, 3, 1],
            [0, 2, 0, -1, 2] + row("Nova") + row("Neu") + row("north") + row("south"), [0] + row("Blues"),
            [0, 4, 2, 0, 3, 0, 6, 0, 6, 3], [0, 3], [0, 3, 2, 0, 1, 0, 6, 3], [0, 1],
            [0, 2, 0, 0, 3, 0, 1, 1, 6, 3], [0, 1, 0], [0, 8, 0, 0, 0, 0, 0, 0, 0, 7], [0, 2, 8, 3, 6, 2, 2]])

    def test_all_fifteen_calls_as_they_lie(self):
        text = "power Reds\nland Abc Xyz\ncentre Abc Reds\nstart Reds army Abc"
        printed = list(b"power Reds\nland Xyz Abc\ncentre Abc Reds\nstart Reds army Abc\n")
        calls = flat(counts(), read(text), rename(0, "Xyz", "Abc"), way(1, 0, 0, 0, 0), way(0, 0, 0, 0, 0), symmetry(0),
                     symmetry(1), starts(), homes(0), parts(), counts(), show(), find("Xy"), place("Xyz"), province(0),
                     power(0), near(2, 0), far(2, 0, 0, 0, 0), homes(1), read(""), counts())
        self.assertEqual(answers(calls), flat(
            [7, 0, 0, 0, 0, 0, 0, 0], [2, 0, 1], [1, 0], [4, 0, 1, 0, 0], [3, 0, 1, 0], [2, 0, 1],
            [1, -1], [6, 0, 1, 0, 0, 0, 0], [3, 0, 1, 0], [3, 0, 1, 0], [7, 0, 1, 1, 0, 0, 1, 1],
            [2 + len(printed), 0, len(printed)] + printed, [3, 0, 1, 0], [3, 0, 0, 0],
            [13, 0, 0, 1, 0, 0, 3] + list(b"Xyz") + [3] + list(b"Abc"), [6, 0, 4] + list(b"Reds"), [2, 0, 0], [2, 0, 0],
            [1, -1], [2, 0, 0], [7, 0, 0, 0, 0, 0, 0, 0]))

    def test_a_wrong_read_between_others(self):
        calls = all_fifteen()
        behind = calls[2:]
        taken = run(*calls, read("land Other Oth\nland Other Oth"), *behind)
        self.assertEqual(taken[15], [1, 2, 2])
        self.assertEqual(taken[2:15], taken[16:])

    def test_a_right_read_between_others(self):
        calls = all_fifteen()
        taken = run(*calls, read("land Other Oth"), *calls[2:], *calls)
        self.assertEqual(taken[15:29], [
            [0, 1], [0, 15] + list(b"land Other Oth\n"), [0, 0], [-3], [-1], [-1], [-1], [-1], [-1], [-1], [0, 0], [-1],
            [0, 1, 0], [0, 0, 1, 0, 0, 0, 0]])
        self.assertEqual(taken[29:], taken[:15])

    def test_no_call_is_answered_minus_eight(self):
        for call in all_fifteen():
            self.assertNotEqual(run(call), [[-8]], call)
            self.assertNotEqual(run(read(BOARD), call)[1], [-8], call)

    def test_calls_in_order_on_one_board(self):
        taken = run(find("Alb"), read("land Albia Alb"), find("Alb"), read("land Nova Nov\nland Albia Alb"),
                    find("Alb"), read("land Nova"), find("Alb"), read(""), find("Alb"))
        self.assertEqual(taken[0::2], [[0, 0], [0, 1, 0], [0, 1, 1], [0, 1, 1], [0, 0]])

    def test_a_refusal_is_alone_and_changes_nothing(self):
        refused = [province(8), power(2), near(3, 0), near(0, 0, 1), far(1, 0, 0, 1, 0), place("Nov"), way(3, 0, 0, 0, 0),
                   way(1, 0, 0, 1, 0), symmetry(8), rename(8, "Nova", "Nov"), rename(0, "", ""), rename(0, "Nov", "Nov"),
                   homes(2)]
        taken = run(read(BOARD), show(), *refused, show())
        self.assertEqual(taken[2:-1], [[-1], [-1], [-1], [-1], [-5], [-3], [-1], [-5], [-1], [-1], [-2], [-4], [-1]])
        self.assertEqual(taken[1], taken[-1])

    def test_bytes_that_look_like_calls(self):
        taken = run(find([7, 1, 2, 3]), place([0, 1, 2]), read([4, 0]), find([1] * 40), province(0),
                    rename(0, [1, 14, 13], [11] * 40), symmetry(14, 13, 11), symmetry(*[1] * 100), parts())
        self.assertEqual(taken, [[0, 0], [-3], [1, 1, 1], [0, 0], [-1], [-1], [-1], [-1], [0, 0]])

    def test_each_call_ends_where_its_form_says(self):
        for call in (read("x"), show(), find("x"), place("x"), province(9), power(9), near(9, 9), far(9, 9, 9, 9, 9),
                     [8, 9, 9, 9, 9, 9], [9, 3, 9, 9, 9], [9, 0], [10, 9, 2, 65, 98, 3, 65, 98, 99], [10, 9, 0, 0],
                     [11], [12, 9], [13], [14]):
            taken = run(read(BOARD), call, place("Gal/c"), call, find("Hes"))
            self.assertEqual((taken[0], taken[2], taken[4]), ([0, 8], [0, 6, 2], [0, 1, 7]), call)

    def test_what_is_handed_in_is_not_changed(self):
        calls = flat(*all_fifteen(), rename(0, "Alb", "Alb"), symmetry(7, 6, 5, 4, 3, 2, 1, 0), read("x"))
        before = list(calls)
        first = answers(calls)
        self.assertEqual(calls, before)
        self.assertIsNot(first, calls)

    def test_the_same_list_twice(self):
        calls = flat(show(), province(0), find("A"), counts(), *all_fifteen(), rename(0, "Delos", "Del"))
        first = answers(calls)
        copy = list(first)
        first.append(0)
        self.assertEqual(answers(calls), copy)

    def test_nothing_is_kept_for_another_list(self):
        answers(flat(*all_fifteen()))
        self.assertEqual(run(show(), find("Alb"), power(0), starts(), parts(), counts()),
                         [[0, 0], [0, 0], [-1], [0, 0], [0, 0], [0, 0, 0, 0, 0, 0, 0]])
        self.assertEqual(run(read(BOARD), find("Nova"), find("Del"))[1:], [[0, 0], [0, 1, 3]])

    def test_nothing_is_printed(self):
        out, err = io.StringIO(), io.StringIO()
        with contextlib.redirect_stdout(out), contextlib.redirect_stderr(err):
            answers(flat(*all_fifteen(), read("x"), province(-1), rename(0, "", "")))
        self.assertEqual((out.getvalue(), err.getvalue()), ("", ""))

    def test_greatest_numbers(self):
        for number in (BIG, -BIG):
            taken = run(read(BOARD), province(number), power(number), near(number, number, number),
                        far(number, number, number, number, number), near(1, 3, number), far(1, 3, 0, 3, number),
                        way(number, number, number, number, number), way(1, 3, 0, 3, number), homes(number),
                        symmetry(number), symmetry(0, 1, 2, 3, 4, 5, 6, number), rename(number, "Nova", "Nov"))
            self.assertEqual(taken[1:], [[-1]] * 12)


class GreatestLists(unittest.TestCase):
    def test_the_longest_text_and_the_longest_list(self):
        text = full_text(16900)
        calls = [read(text)] + [show()] * 39 + [find("A" * 40), find("S" * 15)]
        self.assertEqual(len(flat(*calls)), 17000)
        taken = run(*calls)
        self.assertEqual(taken[0], [0, 40])
        printed = text[:text.index("\n#") + 1]
        self.assertEqual(taken[1:40], [[0, len(printed)] + list(printed.encode())] * 39)
        self.assertEqual(taken[40:], [[0, 0], [0, 0]])

    def test_the_longest_text_wrong_at_its_end(self):
        text = full_text(16890)
        number = text.count("\n") + 2
        self.assertEqual(run(read(text + "\npower Pzz"), province(0)), [[1, number, 6], [-1]])

    def test_a_text_of_line_ends_alone(self):
        self.assertEqual(run(read("\n" * 16900)), [[0, 0]])
        self.assertEqual(run(read("\n" * 16899 + "x")), [[1, 16900, 1]])

    def test_a_text_of_blanks_and_of_one_word(self):
        self.assertEqual(run(read(" " * 16900)), [[0, 0]])
        self.assertEqual(run(read("x" * 16900)), [[1, 1, 1]])
        self.assertEqual(run(read("power " + "x " * 8447)), [[1, 1, 1]])

    def test_four_hundred_calls(self):
        text = full_text(16900).replace("aaaaaaaa", "a").replace("cccccccc", "c").rstrip("~")
        calls = [read(text)] + [far(1, n % 40, 2, 39 - n % 40, 2) for n in range(399)]
        self.assertLessEqual(len(flat(*calls)), 17000)
        self.assertEqual(len(calls), 400)
        taken = run(*calls)
        self.assertEqual(taken[0], [0, 40])
        self.assertEqual(taken[1], [0, 1])
        self.assertEqual(taken[20], [0, 2])

    def test_forty_reads(self):
        text = lines(*provinces("coast", 20), "join Saa Sab")
        calls = [read(text)] * 40 + [near(0, 0)] * 360
        self.assertLessEqual(len(flat(*calls)), 17000)
        self.assertEqual(run(*calls), [[0, 20]] * 40 + [[0, 1, 1]] * 360)

    def test_the_longest_ways(self):
        chain = [f"sail S{two(n)} S{two(n + 1)}" for n in range(39)]
        calls = [read(lines(*provinces("sea", 40), *chain))] + [way(1, 0, 0, 39, 0), way(2, 39, 0, 0, 0), parts()] * 133
        self.assertEqual(len(calls), 400)
        taken = run(*calls)
        self.assertEqual(taken[1::3], [[0, 40] + [number for n in range(40) for number in (n, 0)]] * 133)
        self.assertEqual(taken[2::3], [[0, 40] + list(range(39, -1, -1))] * 133)
        self.assertEqual(taken[3::3], [[0, 40] + [0] * 40] * 133)

    def test_the_longest_lists_of_provinces(self):
        text = lines(*provinces("coast", 40), *joins(40))
        calls = [read(text)] + [symmetry(*[0] * 100)] * 100 + [symmetry(*range(40))] * 120
        self.assertLessEqual(len(flat(*calls)), 17000)
        self.assertEqual(run(*calls), [[0, 40]] + [[-1]] * 100 + [[0, 1]] * 120)

    def test_the_longest_words_of_rename(self):
        calls = [read("land Albia Alb")] + [rename(0, "A" + "b" * 39, "C" + "d" * 39)] * 200
        calls += [rename(0, "A" + "b" * 15, "Xyz"), province(0)]
        taken = run(*calls)
        self.assertEqual(taken[1:201], [[-2]] * 200)
        self.assertEqual(taken[201:], [[0], [0, 0, 0, -1, 0] + row("A" + "b" * 15) + row("Xyz")])

    def test_four_hundred_calls_of_each_kind(self):
        for call in all_fifteen()[3:]:
            taken = run(read(BOARD), rename(3, "Nova", "Neu"), *[call] * 398)
            self.assertEqual(taken[2:], [taken[2]] * 398)
            self.assertEqual(taken[2][0], 0)

    def test_a_full_board_asked_all(self):
        text = full_text(16900).rstrip("~")
        calls = [read(text), rename(39, "Nova", "Neu"), starts(), homes(0), parts(), counts(), symmetry(*range(40)),
                 way(0, 39, 0, 38, 0), way(1, 39, 2, 38, 2), way(1, 0, 0, 0, 1)]
        taken = run(*calls)
        self.assertEqual(taken, [
            [0, 40], [0], [0, 24] + [number for n in range(24) for number in (0, 0, n, 0)], [0, 6, 0, 7, 14, 21, 28, 35],
            [0, 40] + [0] * 40, [0, 7, 40, 300, 300, 40, 24], [0, 1], [0, 3, 39, 0, 38], [0, 3, 39, 2, 0, 2, 38, 2], [-5]])


if __name__ == "__main__":
    unittest.main()
