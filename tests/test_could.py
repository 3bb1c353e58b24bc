"""Point 3, of could."""

import itertools
import unittest

from tests.helper import GREATEST, ROW, STAR, all_trees, ask_tree, look, nearer_ones, one


def could_by_words(tellers, origin, hours):
    """The document's words, person by person and pair by pair."""
    nearer = nearer_ones(tellers, origin)
    if hours[origin] != 0:
        return 0
    others = [person for person in nearer if person != origin]
    for person in others:
        if hours[person] <= hours[nearer[person]]:
            return 0
    for one_told, other_told in itertools.combinations(others, 2):
        if nearer[one_told] == nearer[other_told] and hours[one_told] == hours[other_told]:
            return 0
    return 1


class Could(unittest.TestCase):
    def test_one_person(self):
        self.assertEqual(ask_tree([], ("could", 0, [0]), ("could", 0, [1]), ("could", 0, [GREATEST])),
                         [[1, 0], [0, 1], [0, GREATEST]])

    def test_two(self):
        self.assertEqual(ask_tree([0], ("could", 0, [0, 1]), ("could", 1, [0, 1]), ("could", 1, [7, 0]),
                                  ("could", 0, [0, 0])), [[1, 1], [0, 1], [1, 7], [0, 0]])

    def test_it_may_be_late(self):
        self.assertEqual(one(ROW, "could", 0, [0, 5, 6, 100, 101]), [1, 101])
        self.assertEqual(one(ROW, "could", 2, [GREATEST, 4294967294, 0, 1, GREATEST]), [1, GREATEST])

    def test_the_first_one_is_at_hour_0(self):
        self.assertEqual(one([0, 1], "could", 0, [1, 2, 3]), [0, 3])

    def test_later_than_the_one_who_tells(self):
        self.assertEqual(ask_tree([0, 1], ("could", 0, [0, 2, 2]), ("could", 0, [0, 2, 1]), ("could", 0, [0, 2, 3])),
                         [[0, 2], [0, 2], [1, 3]])

    def test_alike_for_two_whom_one_tells(self):
        self.assertEqual(ask_tree([0, 0], ("could", 0, [0, 1, 1]), ("could", 0, [0, 2, 1])), [[0, 1], [1, 2]])
        self.assertEqual(ask_tree([0, 1, 1], ("could", 0, [0, 1, 3, 3]), ("could", 0, [0, 1, 3, 2])),
                         [[0, 3], [1, 3]])

    def test_alike_for_two_whom_others_tell(self):
        self.assertEqual(one([0, 0, 1, 2], "could", 0, [0, 1, 2, 3, 3]), [1, 3])

    def test_seen_from_an_end_others_are_told_by_one(self):
        # 0 and 2 are told by 1, from 1; from 0 they aren't.
        self.assertEqual(ask_tree([0, 1], ("could", 1, [1, 0, 1]), ("could", 1, [1, 0, 2]), ("could", 0, [0, 1, 2])),
                         [[0, 1], [1, 2], [1, 2]])

    def test_a_star(self):
        told = list(range(14))
        self.assertEqual(one(STAR, "could", 0, told), [1, 13])
        self.assertEqual(one(STAR, "could", 0, [0] + told[:0:-1]), [1, 13])
        self.assertEqual(one(STAR, "could", 0, told[:13] + [12]), [0, 12])
        self.assertEqual(one(STAR, "could", 4, [1, 2, 3, 4, 0, 5, 6, 7, 8, 9, 10, 11, 12, 13]), [1, 13])

    def test_hours_that_leave_one_out(self):
        self.assertEqual(ask_tree([0, 1], ("could", 0, [0, 1]), ("could", 0, [0, 1, 0]), ("could", 0, [0, 0, 1])),
                         [[-22], [0, 1], [0, 1]])

    def test_not_one_for_each(self):
        for people in range(1, 15):
            for many in range(17):
                with self.subTest(people=people, many=many):
                    row = list(range(many))
                    answered = ask_tree([0] * (people - 1), ("could", 0, row), ("hours", 0))
                    self.assertEqual(answered, [[1, people - 1] if many == people else [-22], [people - 1]])

    def test_no_such_person_comes_first(self):
        self.assertEqual(ask_tree([0], ("could", 2, [0, 1]), ("could", 2, [0]), ("could", GREATEST, []),
                                  ("could", 0, [])), [[-2], [-2], [-2], [-22]])

    def test_refused_changes_nothing(self):
        tellers = [0, 0, 1]
        self.assertEqual(ask_tree(tellers, ("could", 0, [0]), ("could", 4, [0, 1, 2, 3]), *look(4)),
                         [[-22], [-2]] + ask_tree(tellers, *look(4)))

    def test_every_row_on_every_small_tree(self):
        for people in range(1, 5):
            rows = [list(row) for row in itertools.product(range(people + 1), repeat=people)]
            for tellers in all_trees(people):
                for origin in range(people):
                    for start in range(0, len(rows), 300):
                        some = rows[start:start + 300]
                        self.assertEqual(ask_tree(tellers, *[("could", origin, row) for row in some]),
                                         [[could_by_words(tellers, origin, row), max(row)] for row in some])


if __name__ == "__main__":
    unittest.main()
