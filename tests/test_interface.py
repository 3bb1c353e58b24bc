"""The interface: one list of whole numbers in, one list of whole numbers out, and nothing kept."""

import io
import unittest
from contextlib import redirect_stdout

from newstree.news import answers
from tests.helper import GREATEST, STAR, ask, built, flat


def refuse_change(*arguments):
    raise AssertionError("what is handed in was to be changed")


class Kept(list):
    """A list that can't be changed, not for a while either."""


for change in ("append", "clear", "extend", "insert", "pop", "remove", "reverse", "sort", "__setitem__",
               "__delitem__", "__iadd__", "__imul__"):
    setattr(Kept, change, refuse_change)

MIXED = flat([("hours", 0), ("begin",), ("join", 0), ("join", 1), ("join", 9), ("plan", 1), ("order", 1, 2),
              ("could", 1, [2, 0, 1]), ("could", 1, [2, 0]), ("by", 1, GREATEST), ("part", 0, 1), ("drop",),
              ("begin",), ("drop",), ("plan", 0)])
MIXED_ANSWERS = [1, -11, 1, 0, 1, 1, 1, 2, 1, -2, 4, 2, 1, 0, 2, 2, 1, 0, 2, 1, 2, 1, -22, 1, 3, 2, 1, 2, 1, 2,
                 1, 0, 1, -6, 2, 0, 0]


class Interface(unittest.TestCase):
    def test_number_by_number(self):
        self.assertEqual(answers([0]), [1, 0])
        self.assertEqual(answers([2]), [1, -11])
        self.assertEqual(answers([0, 1, 0, 4, 0, 5, 0, 0, 8, 0, 1, 6, 0, 2, 0, 3, 7, 0, 0, 3, 1, 2]),
                         [1, 0, 1, 1, 3, 1, 0, 1, 2, 1, 1, 2, 0, 1, 2, 1, 3, 1, 1, 1, 1, 1, 1])

    def test_calls_of_all_kinds(self):
        self.assertEqual(answers(MIXED), MIXED_ANSWERS)

    def test_whole_numbers_in_a_list(self):
        given = answers(MIXED)
        self.assertIs(type(given), list)
        for number in given:
            self.assertIs(type(number), int)

    def test_what_is_handed_in_is_not_changed(self):
        handed = list(MIXED)
        answers(handed)
        self.assertEqual(handed, MIXED)
        self.assertEqual(answers(Kept(MIXED)), MIXED_ANSWERS)

    def test_what_is_given_back_is_new(self):
        first = answers(MIXED)
        first.clear()
        self.assertEqual(answers(MIXED), MIXED_ANSWERS)

    def test_nothing_is_kept(self):
        self.assertEqual(answers(MIXED), answers(MIXED))
        answers(flat(built(STAR)))
        self.assertEqual(answers([3, 0]), [1, -11])
        self.assertEqual(answers([0, 4, 0]), [1, 0, 2, 0, 0])

    def test_prints_nothing(self):
        printed = io.StringIO()
        with redirect_stdout(printed):
            answers(MIXED)
        self.assertEqual(printed.getvalue(), "")

    def test_four_hundred_calls(self):
        calls = built(STAR) + [("plan", k % 14) for k in range(386)]
        given = ask(*calls)
        self.assertEqual(len(given), 400)
        self.assertEqual(given[14], [13] + list(range(14)))
        self.assertEqual(given[399], [13] + [hour + 1 for hour in range(7)] + [0] + [hour for hour in range(8, 14)])

    def test_four_hundred_calls_with_sixteen_hours_each(self):
        calls = [("begin",)] + [("could", 0, [GREATEST] * 16)] * 399
        self.assertEqual(ask(*calls), [[0]] + [[-22]] * 399)

    def test_four_hundred_begins(self):
        self.assertEqual(answers([0] * 400), [1, 0] * 400)

    def test_hours_that_look_like_calls_are_not(self):
        self.assertEqual(ask(("begin",), ("could", 0, [0, 1, 0, 1, 0]), ("hours", 1), ("by", 0, 1), ("hours", 1)),
                         [[0], [-22], [-2], [1], [-2]])


if __name__ == "__main__":
    unittest.main()
