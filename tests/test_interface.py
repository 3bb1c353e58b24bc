"""The interface: one list of whole numbers in, one list of whole numbers out, and nothing kept."""

import io
import random
import unittest
from contextlib import redirect_stdout

from newstree.news import answers
from tests.helper import CALL_NAMES, GREATEST, LONG_ROW, STAR, ask, ask_tree, built, flat


def refuse_change(*arguments):
    raise AssertionError("what is handed in was to be changed")


class Kept(list):
    """A list that can't be changed, not for a while either."""


for change in ("append", "clear", "extend", "insert", "pop", "remove", "reverse", "sort", "__setitem__",
               "__delitem__", "__iadd__", "__imul__"):
    setattr(Kept, change, refuse_change)

MIXED = flat([("hours", 0), ("begin",), ("join", 0), ("join", 1), ("join", 9), ("plan", 1), ("order", 1, 2),
              ("could", 1, [2, 0, 1]), ("could", 1, [2, 0]), ("by", 1, GREATEST), ("part", 0, 1), ("drop",),
              ("far", 1, 0), ("between", 0, 1), ("first", 0), ("more", 0, 1), ("least",), ("all",), ("near", 1),
              ("ends",), ("state",), ("begin",), ("drop",), ("plan", 0), ("first", 0), ("state",)])
MIXED_ANSWERS = [1, -11, 1, 0, 1, 1, 1, 2, 1, -2, 4, 2, 1, 0, 2, 2, 1, 0, 2, 1, 2, 1, -22, 1, 3, 2, 1, 2, 1, 2,
                 1, 1, 3, 2, 0, 1, 2, 1, 0, 2, 2, 1, 1, 1, 3, 1, 1, 1, 2, 1, 0, 3, 2, 0, 1, 2, 2, 0,
                 1, 0, 1, -6, 2, 0, 0, 1, -6, 1, 1]


def some_call(chance):
    """Any call, with people who are there and who aren't; a begin seldom and a join often, so that there are many."""
    name = "begin" if chance.randrange(80) == 0 else chance.choice(CALL_NAMES[1:] + ("join",) * 3)
    people = [chance.choice((0, 1, 2, 3, chance.randrange(16), GREATEST)) for k in range(2)]
    if name == "could":
        return (name, people[0], [chance.randrange(6) for k in range(chance.randrange(17))])
    if name in ("order", "by", "part", "far", "between", "more"):
        return (name, people[0], people[1])
    return (name, people[0]) if name in ("join", "hours", "plan", "first", "near") else (name,)


def one_by_one(calls):
    """What each answers alone, on an object that was made anew with the people who are there by then."""
    tellers = None
    given = []
    for call in calls:
        answered = ask(call)[0] if tellers is None else ask_tree(tellers, call)[0]
        given.append(answered)
        if call[0] == "begin":
            tellers = []
        elif call[0] == "join" and answered[0] >= 0:
            tellers = tellers + [call[1]]
        elif call[0] == "drop" and answered[0] >= 0:
            tellers = tellers[:-1]
    return given


class Interface(unittest.TestCase):
    def test_number_by_number(self):
        self.assertEqual(answers([0]), [1, 0])
        self.assertEqual(answers([2]), [1, -11])
        self.assertEqual(answers([0, 1, 0, 4, 0, 5, 0, 0, 8, 0, 1, 6, 0, 2, 0, 3, 7, 0, 0, 3, 1, 2]),
                         [1, 0, 1, 1, 3, 1, 0, 1, 2, 1, 1, 2, 0, 1, 2, 1, 3, 1, 1, 1, 1, 1, 1])

    def test_number_by_number_of_a_row_of_three(self):
        row = [0, 1, 0, 1, 1]
        made = [1, 0, 1, 1, 1, 2]
        for call, answered in (([9, 0, 2], [2]), ([10, 2, 0], [3, 0, 1, 2]), ([11, 0], [1, 1]),
                               ([12, 0, 2], [3, 2]), ([13], [2]), ([14], [2, 2, 2, 2]), ([15, 1], [2, 0, 2]),
                               ([16], [2, 0, 2]), ([17], [3, 0, 1])):
            # A call behind it shows where it ended.
            self.assertEqual(answers(row + call + [2]), made + [len(answered)] + answered + [1, 2], call)

    def test_calls_of_all_kinds(self):
        self.assertEqual(answers(MIXED), MIXED_ANSWERS)

    def test_whole_numbers_in_a_list(self):
        given = answers(MIXED)
        self.assertIs(type(given), list)
        for number in given:
            self.assertIs(type(number), int)

    def test_what_is_handed_in_is_not_changed(self):
        handed = list(MIXED)
        answers(handed)
        self.assertEqual(handed, MIXED)
        self.assertEqual(answers(Kept(MIXED)), MIXED_ANSWERS)

    def test_what_is_given_back_is_new(self):
        first = answers(MIXED)
        first.clear()
        self.assertEqual(answers(MIXED), MIXED_ANSWERS)

    def test_nothing_is_kept(self):
        self.assertEqual(answers(MIXED), answers(MIXED))
        answers(flat(built(STAR)))
        self.assertEqual(answers([3, 0]), [1, -11])
        self.assertEqual(answers([0, 4, 0]), [1, 0, 2, 0, 0])

    def test_prints_nothing(self):
        printed = io.StringIO()
        with redirect_stdout(printed):
            answers(MIXED)
        self.assertEqual(printed.getvalue(), "")

    def test_four_hundred_calls(self):
        calls = built(STAR) + [("plan", k % 14) for k in range(386)]
        given = ask(*calls)
        self.assertEqual(len(given), 400)
        self.assertEqual(given[14], [13] + list(range(14)))
        self.assertEqual(given[399], [13] + [hour + 1 for hour in range(7)] + [0] + [hour for hour in range(8, 14)])

    def test_four_hundred_calls_with_sixteen_hours_each(self):
        calls = [("begin",)] + [("could", 0, [GREATEST] * 16)] * 399
        self.assertEqual(ask(*calls), [[0]] + [[-22]] * 399)

    def test_four_hundred_begins(self):
        self.assertEqual(answers([0] * 400), [1, 0] * 400)

    def test_four_hundred_of_all_the_calls(self):
        once = built(STAR[:6]) + [
            ("drop",), ("hours", 5), ("plan", 5), ("order", 0, 1), ("could", 0, [0, 1, 2, 3, 4, 5]), ("by", 0, 2),
            ("part", 1, 0), ("far", 1, 5), ("between", 5, 1), ("first", 0), ("more", 0, 1), ("least",), ("all",),
            ("near", 0), ("ends",), ("state",), ("far", GREATEST, 0), ("could", 0, [])]
        self.assertEqual({call[0] for call in once}, set(CALL_NAMES))
        self.assertEqual(len(once), 25)
        self.assertEqual(ask(*once * 16), [
            [0], [1], [2], [3], [4], [5], [6], [6], [5], [5, 1, 2, 3, 4, 5, 0], [4, 2, 3, 4, 5], [1, 5], [3],
            [4, 5], [2], [3, 0, 1, 5], [1, 0], [5, 5], [5], [5] * 7, [5, 1, 2, 3, 4, 5], [5, 1, 2, 3, 4, 5],
            [6, 0, 0, 0, 0, 0], [-2], [-22]] * 16)

    def test_four_hundred_that_ask_only_least_or_all(self):
        row = [13, 13, 12, 11, 10, 9, 8, 7, 7, 8, 9, 10, 11, 12, 13]
        for tellers, least, everybody in ((STAR, [13], [13] * 15), (LONG_ROW, [7], row)):
            for call, answered in (("least", least), ("all", everybody)):
                calls = built(tellers) + [(call,)] * 386
                self.assertEqual(ask(*calls), [[k] for k in range(14)] + [answered] * 386)

    def test_fourteen_and_every_other_call_answers(self):
        asked = ask_tree(STAR, ("join", 0), ("more", 0, 0), ("hours", 13), ("by", 13, 1), ("order", 13, 0),
                         ("part", 0, 13), ("far", 12, 13), ("between", 12, 13), ("first", 13), ("least",),
                         ("near", 13), ("could", 0, list(range(14))), ("drop",))
        self.assertEqual(asked, [[-28], [-28], [13], [2], [0], [0, 1], [2], [3, 0, 12, 13], [0, 12], [13], [1, 0],
                                 [1, 13], [13]])

    def test_any_calls_in_any_order(self):
        chance = random.Random(400)
        for turn in range(60):
            calls = [some_call(chance) for k in range(400)]
            self.assertEqual(ask(*calls), one_by_one(calls))

    def test_hours_that_look_like_calls_are_not(self):
        self.assertEqual(ask(("begin",), ("could", 0, [0, 1, 0, 1, 0]), ("hours", 1), ("by", 0, 1), ("hours", 1)),
                         [[0], [-22], [-2], [1], [-2]])


if __name__ == "__main__":
    unittest.main()
