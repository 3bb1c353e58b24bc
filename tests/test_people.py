"""Point 1; before a begin; and no such person."""

import unittest

from tests.helper import (CALL_NAMES, GREATEST, LONG_ROW, ROW, STAR, ask, ask_tree, look, neighbours, one,
                          some_trees)

ARGUMENTS = {"join": (9,), "hours": (9,), "plan": (9,), "order": (9, 9), "could": (9, [9]), "by": (9, 9),
             "part": (9, 9), "far": (9, 9), "between": (9, 9), "first": (9,), "more": (9, 9), "near": (9,)}
OF_ONE = ("join", "hours", "plan", "first", "near")
OF_TWO = ("order", "part", "far", "between", "more")


class BeforeABegin(unittest.TestCase):
    def test_all_others_answer_not_begun(self):
        for name in CALL_NAMES[1:]:
            with self.subTest(name):
                # What follows shows that the call's numbers were all read, and no more.
                self.assertEqual(ask((name,) + ARGUMENTS.get(name, ()), ("begin",), ("plan", 0)),
                                 [[-11], [0], [0, 0]])

    def test_not_begun_comes_before_no_such_person(self):
        self.assertEqual(ask(("join", GREATEST), ("part", 5, GREATEST), ("could", 9, [])), [[-11], [-11], [-11]])

    def test_refused_calls_do_not_begin(self):
        self.assertEqual(ask(("join", 0), ("drop",), ("could", 0, [0, 1]), ("hours", 0), ("begin",), ("plan", 0)),
                         [[-11], [-11], [-11], [-11], [0], [0, 0]])

    def test_a_row_of_hours_is_passed_over(self):
        for many in range(17):
            self.assertEqual(ask(("could", 0, [0] * many), ("begin",), ("hours", 0)), [[-11], [0], [0]])


class NoSuchPerson(unittest.TestCase):
    def calls_about(self, person):
        """Every call that tells of a person, such a one being in each place where one stands."""
        calls = [(name, person) for name in OF_ONE]
        for name in OF_TWO:
            calls.extend([(name, person, 0), (name, 0, person), (name, person, person)])
        return calls + [("by", person, 0), ("could", person, [0]), ("could", person, [])]

    def test_every_call_with_every_number_of_people(self):
        for people in range(1, 15):
            tellers = [k // 2 for k in range(people - 1)]
            for person in (people, people + 1, 15, 4294967294, GREATEST):
                with self.subTest(people=people, person=person):
                    calls = self.calls_about(person)
                    answered = ask_tree(tellers, *calls, *look(people))
                    self.assertEqual(answered[:len(calls)], [[-2]] * len(calls))
                    self.assertEqual(answered[len(calls):], ask_tree(tellers, *look(people)))

    def test_after_a_drop_they_are_gone(self):
        calls = self.calls_about(2)
        self.assertEqual(ask_tree([0, 1], ("drop",), *calls), [[2]] + [[-2]] * len(calls))


class Begin(unittest.TestCase):
    def test_there_is_one_person(self):
        self.assertEqual(ask(("begin",), ("plan", 0), ("hours", 1)), [[0], [0, 0], [-2]])

    def test_in_the_midst_all_is_new(self):
        self.assertEqual(ask(("begin",), ("join", 0), ("join", 1), ("begin",), ("plan", 0), ("plan", 1), ("join", 0),
                             ("plan", 1)),
                         [[0], [1], [2], [0], [0, 0], [-2], [1], [1, 1, 0]])

    def test_with_fourteen(self):
        self.assertEqual(ask_tree(STAR, ("begin",), ("join", 0), ("drop",), ("drop",)), [[0], [1], [1], [-6]])


class Join(unittest.TestCase):
    def test_answers_the_new_number(self):
        self.assertEqual(ask(("begin",), ("join", 0), ("join", 0), ("join", 2)), [[0], [1], [2], [3]])

    def test_joins_to_that_one(self):
        self.assertEqual(ask_tree([0, 1], ("part", 1, 2), ("part", 0, 2), ("order", 2, 2)), [[0, 1], [-22], [1, 1]])
        self.assertEqual(ask_tree([0, 0], ("part", 1, 2), ("part", 0, 2), ("order", 2, 2)), [[-22], [0, 1], [1, 0]])

    def test_no_such_person(self):
        for person in (1, 2, 13, 14, 4294967294, GREATEST):
            self.assertEqual(ask(("begin",), ("join", person), ("plan", 0)), [[0], [-2], [0, 0]])

    def test_fourteen_and_a_fifteenth(self):
        self.assertEqual(ask(("begin",), *[("join", 0)] * 14), [[k] for k in range(14)] + [[-28]])
        self.assertEqual(one(LONG_ROW, "join", 13), [-28])

    def test_no_such_person_comes_before_too_many(self):
        self.assertEqual(ask_tree(STAR, ("join", 14), ("join", GREATEST), ("join", 13)), [[-2], [-2], [-28]])

    def test_after_a_drop_from_fourteen_there_is_room(self):
        self.assertEqual(ask_tree(STAR, ("drop",), ("join", 4), ("join", 4)), [[13], [13], [-28]])

    def test_refused_changes_nothing(self):
        tellers = [0, 0, 1, 1, 2]
        before = ask_tree(tellers, *look(6))
        self.assertEqual(ask_tree(tellers, ("join", 6), ("join", GREATEST), *look(6))[2:], before)
        self.assertEqual(ask_tree(STAR, ("join", 3), *look(14)), [[-28]] + ask_tree(STAR, *look(14)))


class Drop(unittest.TestCase):
    def test_answers_how_many_there_are(self):
        self.assertEqual(ask_tree([0, 0, 1], ("drop",), ("drop",), ("drop",)), [[3], [2], [1]])

    def test_only_one(self):
        self.assertEqual(ask(("begin",), ("drop",), ("drop",), ("plan", 0)), [[0], [-6], [-6], [0, 0]])

    def test_the_last_is_gone(self):
        self.assertEqual(ask_tree([0, 1, 2], ("drop",), *look(3))[1:], ask_tree([0, 1], *look(3)))

    def test_the_next_is_joined_anew(self):
        self.assertEqual(ask_tree([0, 1, 2], ("drop",), ("join", 0), *look(4))[2:], ask_tree([0, 1, 0], *look(4)))


class Near(unittest.TestCase):
    def test_one_person(self):
        self.assertEqual(one([], "near", 0), [0])

    def test_two(self):
        self.assertEqual(ask_tree([0], ("near", 0), ("near", 1)), [[1, 1], [1, 0]])

    def test_a_row(self):
        self.assertEqual(ask_tree(ROW, *[("near", p) for p in range(5)]),
                         [[1, 1], [2, 0, 2], [2, 1, 3], [2, 2, 4], [1, 3]])

    def test_rising_and_not_by_what_parts_need(self):
        self.assertEqual(ask_tree([0, 0, 0, 1, 3, 5, 1], ("near", 0), ("near", 1), ("near", 3)),
                         [[3, 1, 2, 3], [3, 0, 4, 7], [2, 0, 5]])

    def test_fourteen(self):
        self.assertEqual(ask_tree(STAR, ("near", 0), ("near", 1), ("near", 13)),
                         [[13] + list(range(1, 14)), [1, 0], [1, 0]])
        self.assertEqual(ask_tree(LONG_ROW, ("near", 0), ("near", 12), ("near", 13)), [[1, 1], [2, 11, 13], [1, 12]])

    def test_who_is_gone_is_not_near(self):
        self.assertEqual(ask_tree([0, 0], ("drop",), ("near", 0)), [[2], [1, 1]])

    def test_no_such_person(self):
        self.assertEqual(ask_tree(ROW, ("near", 5), ("near", GREATEST)), [[-2], [-2]])

    def test_on_many_trees(self):
        for tellers in some_trees():
            joins = neighbours(tellers)
            self.assertEqual(ask_tree(tellers, *[("near", p) for p in range(len(joins))]),
                             [[len(others)] + sorted(others) for others in joins])


class Ends(unittest.TestCase):
    def test_one_person(self):
        self.assertEqual(one([], "ends"), [0])

    def test_two(self):
        self.assertEqual(one([0], "ends"), [2, 0, 1])

    def test_a_row(self):
        self.assertEqual(one(ROW, "ends"), [2, 0, 4])
        self.assertEqual(one([0, 0, 1, 2], "ends"), [2, 3, 4])
        self.assertEqual(one(LONG_ROW, "ends"), [2, 0, 13])

    def test_a_star(self):
        self.assertEqual(one(STAR, "ends"), [13] + list(range(1, 14)))
        self.assertEqual(one([0] + [1] * 12, "ends"), [13, 0] + list(range(2, 14)))

    def test_a_drop_makes_an_end(self):
        self.assertEqual(ask_tree([0, 1], ("ends",), ("drop",), ("ends",), ("drop",), ("ends",)),
                         [[2, 0, 2], [2], [2, 0, 1], [1], [0]])

    def test_on_many_trees(self):
        for tellers in some_trees():
            alone = [p for p, others in enumerate(neighbours(tellers)) if len(others) == 1]
            self.assertEqual(one(tellers, "ends"), [len(alone)] + alone)


class State(unittest.TestCase):
    def test_one_person(self):
        self.assertEqual(one([], "state"), [1])

    def test_two(self):
        self.assertEqual(one([0], "state"), [2, 0])

    def test_to_whom_they_were_joined(self):
        self.assertEqual(one([0, 1, 0, 2, 2], "state"), [6, 0, 1, 0, 2, 2])

    def test_fourteen(self):
        self.assertEqual(ask_tree(LONG_ROW, ("join", 0), ("state",)), [[-28], [14] + list(range(13))])
        self.assertEqual(one(STAR, "state"), [14] + [0] * 13)

    def test_after_drop_and_join(self):
        self.assertEqual(ask_tree([0, 1, 1], ("drop",), ("state",), ("join", 2), ("state",)),
                         [[3], [3, 0, 1], [3], [4, 0, 1, 2]])

    def test_after_a_begin_in_the_midst(self):
        self.assertEqual(ask_tree(ROW, ("begin",), ("state",), ("ends",), ("near", 0)), [[0], [1], [0], [0]])

    def test_on_many_trees(self):
        for tellers in some_trees():
            self.assertEqual(one(tellers, "state"), [len(tellers) + 1] + tellers)


if __name__ == "__main__":
    unittest.main()
