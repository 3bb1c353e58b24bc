"""Point 2."""

import unittest

from tests.helper import GREATEST, LONG_ROW, ROW, STAR, ask_tree, look, one

# 0 has 1, 2 and 3; 1 has 4; 3 has 5; 5 has 6.
BUSH = [0, 0, 0, 1, 3, 5]


class Hours(unittest.TestCase):
    def test_one_person(self):
        self.assertEqual(one([], "hours", 0), [0])

    def test_two(self):
        self.assertEqual(ask_tree([0], ("hours", 0), ("hours", 1)), [[1], [1]])

    def test_a_row(self):
        self.assertEqual(ask_tree(ROW, *[("hours", p) for p in range(5)]), [[4], [3], [3], [3], [4]])
        self.assertEqual(ask_tree(LONG_ROW, *[("hours", p) for p in (0, 1, 6, 7, 12, 13)]),
                         [[13], [12], [7], [7], [12], [13]])

    def test_a_row_with_as_much_on_either_side(self):
        # Both parts of 1 need as long, so the second called is an hour later.
        self.assertEqual(one([0, 1], "hours", 1), [2])

    def test_a_star(self):
        self.assertEqual(ask_tree(STAR, *[("hours", p) for p in range(14)]), [[13]] * 14)

    def test_the_longest_is_called_first(self):
        self.assertEqual(ask_tree(BUSH, *[("hours", p) for p in range(7)]), [[3], [4], [4], [3], [5], [4], [5]])

    def test_no_such_person(self):
        self.assertEqual(ask_tree(BUSH, ("hours", 7), ("hours", GREATEST)), [[-2], [-2]])
        self.assertEqual(one(STAR, "hours", 14), [-2])


class Plan(unittest.TestCase):
    def test_one_person(self):
        self.assertEqual(one([], "plan", 0), [0, 0])

    def test_two(self):
        self.assertEqual(ask_tree([0], ("plan", 0), ("plan", 1)), [[1, 0, 1], [1, 1, 0]])

    def test_a_row(self):
        self.assertEqual(ask_tree(ROW, ("plan", 0), ("plan", 1), ("plan", 2), ("plan", 4)),
                         [[4, 0, 1, 2, 3, 4], [3, 2, 0, 1, 2, 3], [3, 2, 1, 0, 2, 3], [4, 4, 3, 2, 1, 0]])

    def test_a_star_from_its_middle(self):
        self.assertEqual(one(STAR, "plan", 0), [13] + list(range(14)))

    def test_a_star_from_an_end(self):
        self.assertEqual(one(STAR, "plan", 5), [13, 1, 2, 3, 4, 5, 0, 6, 7, 8, 9, 10, 11, 12, 13])
        self.assertEqual(one(STAR, "plan", 13), [13] + list(range(1, 14)) + [0])

    def test_the_longest_is_called_first(self):
        self.assertEqual(ask_tree(BUSH, ("plan", 0), ("plan", 3)),
                         [[3, 0, 2, 3, 1, 3, 2, 3], [3, 1, 2, 3, 0, 3, 2, 3]])

    def test_two_parts_that_need_as_long(self):
        self.assertEqual(one([0, 0, 2, 1], "plan", 0), [3, 0, 1, 2, 3, 2])

    def test_no_such_person(self):
        self.assertEqual(ask_tree(BUSH, ("plan", 7), ("plan", GREATEST)), [[-2], [-2]])


class By(unittest.TestCase):
    def test_one_person(self):
        self.assertEqual(ask_tree([], ("by", 0, 0), ("by", 0, 1), ("by", 0, GREATEST)), [[1], [1], [1]])

    def test_hour_by_hour(self):
        self.assertEqual(ask_tree(BUSH, *[("by", 0, h) for h in range(5)]), [[1], [2], [4], [7], [7]])
        self.assertEqual(ask_tree(ROW, *[("by", 2, h) for h in range(5)]), [[1], [2], [4], [5], [5]])

    def test_fourteen(self):
        self.assertEqual(ask_tree(STAR, *[("by", 0, h) for h in range(15)]), [[h + 1] for h in range(14)] + [[14]])

    def test_great_hours(self):
        self.assertEqual(ask_tree(BUSH, ("by", 6, 4294967294), ("by", 6, GREATEST)), [[7], [7]])

    def test_no_such_person(self):
        self.assertEqual(ask_tree(BUSH, ("by", 7, 0), ("by", GREATEST, GREATEST)), [[-2], [-2]])


class First(unittest.TestCase):
    def test_one_person_calls_nobody(self):
        self.assertEqual(ask_tree([], ("first", 0), *look(1)), [[-6]] + ask_tree([], *look(1)))

    def test_no_such_person_comes_before_nobody_to_call(self):
        self.assertEqual(ask_tree([], ("first", 1), ("first", GREATEST), ("first", 0)), [[-2], [-2], [-6]])

    def test_after_a_drop_nobody_is_left_to_call(self):
        self.assertEqual(ask_tree([0], ("first", 0), ("drop",), ("first", 0)), [[1, 0], [1], [-6]])

    def test_two(self):
        self.assertEqual(ask_tree([0], ("first", 0), ("first", 1)), [[1, 0], [0, 0]])

    def test_the_longest_and_what_their_part_needs(self):
        self.assertEqual(ask_tree(BUSH, *[("first", p) for p in range(7)]),
                         [[3, 2], [0, 3], [0, 3], [0, 2], [1, 4], [3, 3], [5, 4]])

    def test_a_row(self):
        self.assertEqual(ask_tree(ROW, *[("first", p) for p in range(5)]), [[1, 3], [2, 2], [1, 1], [2, 2], [3, 3]])
        self.assertEqual(ask_tree(LONG_ROW, ("first", 0), ("first", 6), ("first", 7), ("first", 13)),
                         [[1, 12], [7, 6], [6, 6], [12, 12]])

    def test_a_star(self):
        self.assertEqual(ask_tree(STAR, ("first", 0), ("first", 1), ("first", 13)), [[1, 0], [0, 12], [0, 12]])

    def test_two_parts_that_need_as_long(self):
        self.assertEqual(ask_tree([0, 0, 2, 1], ("first", 0), ("part", 0, 1), ("part", 0, 2)),
                         [[1, 1], [1, 2], [1, 2]])
        # A fork of four needs as long as a row of three: the lesser number, not the part with more people.
        self.assertEqual(one([0, 0, 1, 3, 2, 2, 6], "first", 0), [1, 2])

    def test_hours_and_not_people_and_not_how_far(self):
        # 1 has three others to call, 2 has two behind one another.
        self.assertEqual(one([0, 0, 1, 1, 1, 2, 6], "first", 0), [1, 3])
        # 1 has two to call, behind 2 there are three behind one another.
        self.assertEqual(one([0, 0, 1, 1, 2, 5, 6], "first", 0), [2, 3])

    def test_no_such_person(self):
        self.assertEqual(ask_tree(BUSH, ("first", 7), ("first", GREATEST)), [[-2], [-2]])


class Order(unittest.TestCase):
    def test_from_nobody(self):
        self.assertEqual(ask_tree(BUSH, ("order", 0, 0), ("order", 3, 3), ("order", 6, 6)),
                         [[3, 3, 1, 2], [2, 0, 5], [1, 5]])

    def test_from_a_neighbour(self):
        self.assertEqual(ask_tree(BUSH, ("order", 0, 3), ("order", 0, 1), ("order", 0, 2), ("order", 3, 0)),
                         [[2, 1, 2], [2, 3, 2], [2, 3, 1], [1, 5]])

    def test_an_end_told_by_its_neighbour_calls_nobody(self):
        self.assertEqual(ask_tree(BUSH, ("order", 6, 5), ("order", 2, 0)), [[0], [0]])

    def test_one_person_and_two(self):
        self.assertEqual(one([], "order", 0, 0), [0])
        self.assertEqual(ask_tree([0], ("order", 0, 0), ("order", 0, 1), ("order", 1, 0), ("order", 1, 1)),
                         [[1, 1], [0], [0], [1, 0]])

    def test_two_parts_that_need_as_long(self):
        self.assertEqual(ask_tree([0, 0, 2, 1], ("order", 0, 0), ("order", 0, 2)), [[2, 1, 2], [1, 1]])

    def test_by_hours_and_not_by_people(self):
        # 1's part needs less, so the greater number is called first.
        self.assertEqual(ask_tree([0, 0, 1, 2, 2, 4], ("part", 0, 1), ("part", 0, 2), ("order", 0, 0)),
                         [[1, 2], [2, 4], [2, 2, 1]])
        # A row of three and a fork of four need as long: the lesser number, not the part with more people.
        self.assertEqual(ask_tree([0, 0, 1, 3, 2, 2, 6], ("part", 0, 1), ("part", 0, 2), ("order", 0, 0)),
                         [[2, 3], [2, 4], [2, 1, 2]])

    def test_a_star(self):
        self.assertEqual(one(STAR, "order", 0, 0), [13] + list(range(1, 14)))
        self.assertEqual(one(STAR, "order", 0, 7), [12, 1, 2, 3, 4, 5, 6, 8, 9, 10, 11, 12, 13])
        self.assertEqual(ask_tree(STAR, ("order", 7, 7), ("order", 7, 0)), [[1, 0], [0]])

    def test_not_joined(self):
        self.assertEqual(ask_tree(BUSH, ("order", 0, 4), ("order", 4, 0), ("order", 1, 2)), [[-22], [-22], [-22]])

    def test_no_such_person(self):
        self.assertEqual(ask_tree(BUSH, ("order", 7, 0), ("order", 0, 7), ("order", 7, 7), ("order", GREATEST, 3),
                                  ("order", 3, GREATEST), ("order", GREATEST, GREATEST)), [[-2]] * 6)


class Part(unittest.TestCase):
    def test_hours_and_people(self):
        self.assertEqual(ask_tree(BUSH, ("part", 0, 3), ("part", 3, 0), ("part", 0, 2), ("part", 2, 0)),
                         [[2, 3], [2, 4], [0, 1], [3, 6]])

    def test_two(self):
        self.assertEqual(ask_tree([0], ("part", 0, 1), ("part", 1, 0)), [[0, 1], [0, 1]])

    def test_a_row_and_a_star_of_fourteen(self):
        self.assertEqual(ask_tree(LONG_ROW, ("part", 0, 1), ("part", 12, 13), ("part", 6, 7), ("part", 7, 6)),
                         [[12, 13], [0, 1], [6, 7], [6, 7]])
        self.assertEqual(ask_tree(STAR, ("part", 13, 0), ("part", 0, 13)), [[12, 13], [0, 1]])

    def test_not_joined(self):
        self.assertEqual(ask_tree(BUSH, ("part", 0, 4), ("part", 4, 0), ("part", 1, 2)), [[-22], [-22], [-22]])

    def test_nobody_is_joined_with_themselves(self):
        self.assertEqual(ask_tree(BUSH, *[("part", p, p) for p in range(7)]), [[-22]] * 7)
        self.assertEqual(one([], "part", 0, 0), [-22])

    def test_no_such_person(self):
        self.assertEqual(ask_tree(BUSH, ("part", 7, 0), ("part", 0, 7), ("part", 7, 7), ("part", GREATEST, 3),
                                  ("part", 3, GREATEST), ("part", GREATEST, GREATEST)), [[-2]] * 6)


class Refused(unittest.TestCase):
    def test_changes_nothing(self):
        refused = [("hours", 7), ("plan", GREATEST), ("by", 9, 3), ("order", 7, 0), ("order", 0, 4), ("part", 0, 7),
                   ("part", 0, 4), ("part", 2, 2)]
        answered = ask_tree(BUSH, *refused, *look(7))
        self.assertEqual(answered[:8], [[-2], [-2], [-2], [-2], [-22], [-2], [-22], [-22]])
        self.assertEqual(answered[8:], ask_tree(BUSH, *look(7)))


if __name__ == "__main__":
    unittest.main()
