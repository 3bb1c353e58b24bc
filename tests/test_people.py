"""Point 1, of begin, join and drop; and before a begin."""

import unittest

from tests.helper import CALL_NAMES, GREATEST, LONG_ROW, STAR, ask, ask_tree, look, one

ARGUMENTS = {"join": (9,), "hours": (9,), "plan": (9,), "order": (9, 9), "could": (9, [9]), "by": (9, 9),
             "part": (9, 9), "far": (9, 9), "between": (9, 9), "first": (9,), "more": (9, 9), "near": (9,)}


class BeforeABegin(unittest.TestCase):
    def test_all_others_answer_not_begun(self):
        for name in CALL_NAMES[1:]:
            with self.subTest(name):
                # What follows shows that the call's numbers were all read, and no more.
                self.assertEqual(ask((name,) + ARGUMENTS.get(name, ()), ("begin",), ("plan", 0)),
                                 [[-11], [0], [0, 0]])

    def test_not_begun_comes_before_no_such_person(self):
        self.assertEqual(ask(("join", GREATEST), ("part", 5, GREATEST), ("could", 9, [])), [[-11], [-11], [-11]])

    def test_refused_calls_do_not_begin(self):
        self.assertEqual(ask(("join", 0), ("drop",), ("could", 0, [0, 1]), ("hours", 0), ("begin",), ("plan", 0)),
                         [[-11], [-11], [-11], [-11], [0], [0, 0]])

    def test_a_row_of_hours_is_passed_over(self):
        for many in range(17):
            self.assertEqual(ask(("could", 0, [0] * many), ("begin",), ("hours", 0)), [[-11], [0], [0]])


class Begin(unittest.TestCase):
    def test_there_is_one_person(self):
        self.assertEqual(ask(("begin",), ("plan", 0), ("hours", 1)), [[0], [0, 0], [-2]])

    def test_in_the_midst_all_is_new(self):
        self.assertEqual(ask(("begin",), ("join", 0), ("join", 1), ("begin",), ("plan", 0), ("plan", 1), ("join", 0),
                             ("plan", 1)),
                         [[0], [1], [2], [0], [0, 0], [-2], [1], [1, 1, 0]])

    def test_with_fourteen(self):
        self.assertEqual(ask_tree(STAR, ("begin",), ("join", 0), ("drop",), ("drop",)), [[0], [1], [1], [-6]])


class Join(unittest.TestCase):
    def test_answers_the_new_number(self):
        self.assertEqual(ask(("begin",), ("join", 0), ("join", 0), ("join", 2)), [[0], [1], [2], [3]])

    def test_joins_to_that_one(self):
        self.assertEqual(ask_tree([0, 1], ("part", 1, 2), ("part", 0, 2), ("order", 2, 2)), [[0, 1], [-22], [1, 1]])
        self.assertEqual(ask_tree([0, 0], ("part", 1, 2), ("part", 0, 2), ("order", 2, 2)), [[-22], [0, 1], [1, 0]])

    def test_no_such_person(self):
        for person in (1, 2, 13, 14, 4294967294, GREATEST):
            self.assertEqual(ask(("begin",), ("join", person), ("plan", 0)), [[0], [-2], [0, 0]])

    def test_fourteen_and_a_fifteenth(self):
        self.assertEqual(ask(("begin",), *[("join", 0)] * 14), [[k] for k in range(14)] + [[-28]])
        self.assertEqual(one(LONG_ROW, "join", 13), [-28])

    def test_no_such_person_comes_before_too_many(self):
        self.assertEqual(ask_tree(STAR, ("join", 14), ("join", GREATEST), ("join", 13)), [[-2], [-2], [-28]])

    def test_after_a_drop_from_fourteen_there_is_room(self):
        self.assertEqual(ask_tree(STAR, ("drop",), ("join", 4), ("join", 4)), [[13], [13], [-28]])

    def test_refused_changes_nothing(self):
        tellers = [0, 0, 1, 1, 2]
        before = ask_tree(tellers, *look(6))
        self.assertEqual(ask_tree(tellers, ("join", 6), ("join", GREATEST), *look(6))[2:], before)
        plans = [("plan", p) for p in range(14)]
        self.assertEqual(ask_tree(STAR, ("join", 3), *plans)[1:], ask_tree(STAR, *plans))


class Drop(unittest.TestCase):
    def test_answers_how_many_there_are(self):
        self.assertEqual(ask_tree([0, 0, 1], ("drop",), ("drop",), ("drop",)), [[3], [2], [1]])

    def test_only_one(self):
        self.assertEqual(ask(("begin",), ("drop",), ("drop",), ("plan", 0)), [[0], [-6], [-6], [0, 0]])

    def test_the_last_is_gone(self):
        self.assertEqual(ask_tree([0, 1, 2], ("drop",), *look(3))[1:], ask_tree([0, 1], *look(3)))

    def test_the_next_is_joined_anew(self):
        self.assertEqual(ask_tree([0, 1, 2], ("drop",), ("join", 0), *look(4))[2:], ask_tree([0, 1, 0], *look(4)))


if __name__ == "__main__":
    unittest.main()
