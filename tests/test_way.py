"""Point 4."""

import unittest

from tests.helper import GREATEST, LONG_ROW, ROW, STAR, ask_tree, look, one

# 0 has 1 and 2; 1 has 3 and 4; 2 has 5; 5 has 6.
FORK = [0, 0, 1, 1, 2, 5]


class Far(unittest.TestCase):
    def test_one_person_and_two(self):
        self.assertEqual(one([], "far", 0, 0), [0])
        self.assertEqual(ask_tree([0], ("far", 0, 0), ("far", 0, 1), ("far", 1, 0), ("far", 1, 1)),
                         [[0], [1], [1], [0]])

    def test_the_same(self):
        self.assertEqual(ask_tree(FORK, *[("far", p, p) for p in range(7)]), [[0]] * 7)

    def test_a_row(self):
        self.assertEqual(ask_tree(ROW, ("far", 0, 4), ("far", 4, 0), ("far", 1, 3), ("far", 3, 2)),
                         [[4], [4], [2], [1]])
        self.assertEqual(ask_tree(LONG_ROW, ("far", 0, 13), ("far", 13, 0), ("far", 2, 9)), [[13], [13], [7]])

    def test_a_star(self):
        self.assertEqual(ask_tree(STAR, ("far", 0, 13), ("far", 13, 0), ("far", 1, 13), ("far", 13, 1)),
                         [[1], [1], [2], [2]])

    def test_by_one_whom_both_come_to(self):
        self.assertEqual(ask_tree(FORK, ("far", 3, 4), ("far", 3, 6), ("far", 6, 4), ("far", 1, 6), ("far", 3, 2)),
                         [[2], [5], [5], [4], [3]])

    def test_no_such_person(self):
        self.assertEqual(ask_tree(FORK, ("far", 7, 0), ("far", 0, 7), ("far", 7, 7), ("far", GREATEST, 0),
                                  ("far", 0, GREATEST), ("far", GREATEST, GREATEST)), [[-2]] * 6)

    def test_goes_with_the_people(self):
        self.assertEqual(ask_tree([0, 1], ("far", 0, 2), ("drop",), ("far", 0, 2), ("join", 0), ("far", 0, 2)),
                         [[2], [2], [-2], [2], [1]])


class Between(unittest.TestCase):
    def test_one_person_and_two(self):
        self.assertEqual(one([], "between", 0, 0), [1, 0])
        self.assertEqual(ask_tree([0], ("between", 0, 0), ("between", 0, 1), ("between", 1, 0), ("between", 1, 1)),
                         [[1, 0], [2, 0, 1], [2, 0, 1], [1, 1]])

    def test_the_same(self):
        self.assertEqual(ask_tree(FORK, *[("between", p, p) for p in range(7)]), [[1, p] for p in range(7)])

    def test_a_row(self):
        self.assertEqual(ask_tree(ROW, ("between", 0, 4), ("between", 4, 0), ("between", 3, 1), ("between", 2, 3)),
                         [[5, 0, 1, 2, 3, 4], [5, 0, 1, 2, 3, 4], [3, 1, 2, 3], [2, 2, 3]])
        self.assertEqual(one(LONG_ROW, "between", 13, 0), [14] + list(range(14)))

    def test_a_star(self):
        self.assertEqual(ask_tree(STAR, ("between", 0, 13), ("between", 13, 0), ("between", 13, 1), ("between", 5, 6)),
                         [[2, 0, 13], [2, 0, 13], [3, 0, 1, 13], [3, 0, 5, 6]])

    def test_rising_and_not_in_the_order_of_the_way(self):
        self.assertEqual(ask_tree(FORK, ("between", 3, 6), ("between", 6, 3), ("between", 4, 3), ("between", 2, 4)),
                         [[6, 0, 1, 2, 3, 5, 6], [6, 0, 1, 2, 3, 5, 6], [3, 1, 3, 4], [4, 0, 1, 2, 4]])

    def test_no_such_person(self):
        self.assertEqual(ask_tree(FORK, ("between", 7, 0), ("between", 0, 7), ("between", 7, 7),
                                  ("between", GREATEST, 0), ("between", 0, GREATEST)), [[-2]] * 5)

    def test_goes_with_the_people(self):
        self.assertEqual(ask_tree([0, 1], ("between", 0, 2), ("drop",), ("between", 0, 2), ("join", 0),
                                  ("between", 0, 2)), [[3, 0, 1, 2], [2], [-2], [2], [2, 0, 2]])


class Refused(unittest.TestCase):
    def test_changes_nothing(self):
        self.assertEqual(ask_tree(FORK, ("far", 7, 0), ("far", 0, GREATEST), ("between", 7, 0), ("between", 0, 7),
                                  *look(7)), [[-2]] * 4 + ask_tree(FORK, *look(7)))


if __name__ == "__main__":
    unittest.main()
