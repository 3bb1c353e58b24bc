"""Point 3, of least, all and more."""

import unittest

from tests.helper import GREATEST, LONG_ROW, ROW, STAR, ask, ask_tree, built, look, one


class Least(unittest.TestCase):
    def test_one_person_and_two(self):
        self.assertEqual(one([], "least"), [0])
        self.assertEqual(one([0], "least"), [1])

    def test_a_row(self):
        self.assertEqual(one([0, 1], "least"), [2])
        self.assertEqual(one(ROW, "least"), [3])
        self.assertEqual(one(LONG_ROW, "least"), [7])

    def test_a_star(self):
        self.assertEqual(one(STAR, "least"), [13])

    def test_not_from_the_first_nor_the_last(self):
        self.assertEqual(ask_tree(ROW, ("least",), ("hours", 0), ("hours", 4)), [[3], [4], [4]])

    def test_goes_with_the_people(self):
        self.assertEqual(ask_tree(ROW, ("drop",), ("least",), ("drop",), ("drop",), ("least",), ("begin",), ("least",)),
                         [[4], [2], [3], [2], [1], [0], [0]])


class All(unittest.TestCase):
    def test_one_person_and_two(self):
        self.assertEqual(one([], "all"), [0, 0])
        self.assertEqual(one([0], "all"), [1, 1, 1])

    def test_a_row(self):
        self.assertEqual(one([0, 1], "all"), [2, 2, 2, 2])
        self.assertEqual(one(ROW, "all"), [4, 4, 3, 3, 3, 4])
        self.assertEqual(one(LONG_ROW, "all"), [13, 13, 12, 11, 10, 9, 8, 7, 7, 8, 9, 10, 11, 12, 13])

    def test_a_star(self):
        self.assertEqual(one(STAR, "all"), [13] * 15)

    def test_the_most_is_neither_of_the_first_nor_of_the_last(self):
        self.assertEqual(one([0, 0, 0, 1, 3, 5], "all"), [5, 3, 4, 4, 3, 5, 4, 5])
        self.assertEqual(one([0, 1, 2, 1], "all"), [4, 3, 3, 3, 4, 3])

    def test_goes_with_the_people(self):
        self.assertEqual(ask_tree([0, 1], ("join", 2), ("all",), ("drop",), ("all",), ("begin",), ("all",)),
                         [[3], [3, 3, 2, 2, 3], [3], [2, 2, 2, 2], [0], [0, 0]])


class More(unittest.TestCase):
    def test_one_person(self):
        self.assertEqual(one([], "more", 0, 0), [1, 0])

    def test_two(self):
        self.assertEqual(ask_tree([0], ("more", 0, 0), ("more", 0, 1), ("more", 1, 0), ("more", 1, 1)), [[2, 1]] * 4)

    def test_from_the_first_joined_to_the_second(self):
        self.assertEqual(ask_tree(ROW, ("more", 0, 4), ("more", 4, 0), ("more", 0, 0), ("more", 4, 4)),
                         [[5, 4], [5, 4], [4, 4], [4, 4]])
        self.assertEqual(ask_tree(ROW, ("more", 2, 0), ("more", 2, 4), ("more", 1, 0), ("more", 1, 4)),
                         [[3, 3], [3, 3], [3, 3], [4, 3]])

    def test_a_star(self):
        star = STAR[:12]
        self.assertEqual(ask_tree(star, ("more", 0, 0), ("more", 0, 1), ("more", 0, 12), ("more", 5, 0),
                                  ("more", 5, 6), ("more", 5, 5)),
                         [[13, 12], [12, 12], [12, 12], [13, 12], [12, 12], [12, 12]])

    def test_thirteen_and_fourteen(self):
        self.assertEqual(ask_tree(LONG_ROW[:12], ("more", 0, 12), ("join", 12), ("more", 0, 12)),
                         [[13, 12], [13], [-28]])
        self.assertEqual(ask_tree(STAR, ("more", 0, 0), ("more", 13, 13), ("drop",), ("more", 0, 0)),
                         [[-28], [-28], [13], [13, 12]])

    def test_no_such_person(self):
        self.assertEqual(ask_tree(ROW, ("more", 5, 0), ("more", 0, 5), ("more", 5, 5), ("more", GREATEST, 3),
                                  ("more", 3, GREATEST)), [[-2]] * 5)

    def test_no_such_person_comes_before_too_many(self):
        self.assertEqual(ask_tree(STAR, ("more", 14, 0), ("more", 0, 14), ("more", 0, GREATEST), ("more", 0, 13)),
                         [[-2], [-2], [-2], [-28]])

    def test_nobody_is_joined(self):
        self.assertEqual(ask_tree(ROW, ("more", 0, 4), ("more", 0, 5), *look(5)),
                         [[5, 4], [-2]] + ask_tree(ROW, *look(5)))
        self.assertEqual(ask_tree(STAR, ("more", 0, 0), *look(14)), [[-28]] + ask_tree(STAR, *look(14)))

    def test_then_joined_indeed(self):
        for people in range(1, 14):
            made = built([k // 2 for k in range(people - 1)])
            for q in range(people):
                answered = ask(*made, ("more", 0, q), ("join", q), ("hours", 0))
                self.assertEqual(answered[-1], answered[-3][:1])


if __name__ == "__main__":
    unittest.main()
