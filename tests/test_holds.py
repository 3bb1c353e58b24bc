"""What holds, a to f, on many trees; and what binds the calls together."""

import itertools
import unittest

from tests.helper import all_trees, ask_tree, look, neighbours, one, some_trees, way_between


def fewest_hours(joins, origin):
    """By trying every call that everybody can make, hour by hour."""
    everybody = len(joins)
    states = {frozenset([origin])}
    hours = 0
    while not any(len(state) == everybody for state in states):
        later = set()
        for state in states:
            choices = [[other for other in joins[person] if other not in state] for person in sorted(state)]
            for calls in itertools.product(*[choice for choice in choices if choice]):
                later.add(state.union(calls))
        states = later
        hours += 1
    return hours


class NoPlanIsSooner(unittest.TestCase):
    def test_on_every_small_tree(self):
        for people in range(1, 7):
            for tellers in all_trees(people):
                joins = neighbours(tellers)
                plans = ask_tree(tellers, *[("plan", p) for p in range(people)])
                for p in range(people):
                    self.assertEqual(plans[p][0], fewest_hours(joins, p), (tellers, p))

    def test_on_some_greater_trees(self):
        for tellers in ([0, 0, 0, 1, 1, 2, 3, 4], [0, 1, 2, 0, 4, 0, 1, 7], [0, 1, 1, 2, 2, 3, 3, 0]):
            joins = neighbours(tellers)
            for p in range(9):
                self.assertEqual(ask_tree(tellers, ("hours", p)), [[fewest_hours(joins, p)]], (tellers, p))


class Bounds(unittest.TestCase):
    def test_all_is_told_just_then_by_a_plan_that_could_be(self):
        for tellers in some_trees():
            for p in range(len(tellers) + 1):
                plan = ask_tree(tellers, ("plan", p))[0]
                self.assertEqual(len(plan), len(tellers) + 2)
                self.assertEqual(plan[0], max(plan[1:]))
                self.assertEqual(ask_tree(tellers, ("hours", p), ("could", p, plan[1:])), [[plan[0]], [1, plan[0]]])

    def test_no_more_know_than_by_doubling(self):
        for tellers in some_trees():
            for p in range(len(tellers) + 1):
                plan = ask_tree(tellers, ("plan", p))[0]
                counts = ask_tree(tellers, *[("by", p, h) for h in range(16)])
                for h in range(16):
                    self.assertEqual(counts[h], [len([hour for hour in plan[1:] if hour <= h])])
                    self.assertLessEqual(counts[h][0], 2 ** h)

    def test_no_sooner_than_the_farthest_and_than_anybody_has_to_call(self):
        for tellers in some_trees():
            joins = neighbours(tellers)
            for p in range(len(joins)):
                hours = ask_tree(tellers, ("hours", p))[0][0]
                for q in range(len(joins)):
                    self.assertGreaterEqual(hours, len(way_between(tellers, p, q)) - 1)
                self.assertGreaterEqual(hours, max(len(others) for others in joins))


class LittleDiffers(unittest.TestCase):
    def check(self, tellers):
        people = len(tellers) + 1
        hours = one(tellers, "all")[1:]
        for k, teller in enumerate(tellers):
            self.assertLessEqual(abs(hours[k + 1] - hours[teller]), 1, (tellers, k + 1))
        if people == 14:
            return
        for q in range(people):
            later = ask_tree(tellers, *[("more", p, q) for p in range(people)])
            joined = ask_tree(list(tellers) + [q], *[("hours", p) for p in range(people)])
            for p in range(people):
                self.assertEqual(later[p], joined[p] + [hours[p]], (tellers, p, q))
                self.assertIn(later[p][0] - later[p][1], (0, 1), (tellers, p, q))

    def test_on_every_small_tree(self):
        for people in range(1, 7):
            for tellers in all_trees(people):
                self.check(tellers)

    def test_on_greater_trees(self):
        for tellers in some_trees():
            self.check(tellers)


class OneWay(unittest.TestCase):
    def check(self, name, by_way):
        """The call answers there and back what by_way makes of whom one passes."""
        for tellers in some_trees():
            people = range(len(tellers) + 1)
            pairs = list(itertools.product(people, people))
            there = ask_tree(tellers, *[(name, p, q) for p, q in pairs])
            self.assertEqual(there, ask_tree(tellers, *[(name, q, p) for p, q in pairs]), tellers)
            self.assertEqual(there, [by_way(way_between(tellers, p, q)) for p, q in pairs], tellers)

    def test_as_far_there_as_back(self):
        self.check("far", lambda passed: [len(passed) - 1])

    def test_the_same_way_there_as_back(self):
        self.check("between", lambda passed: [len(passed)] + sorted(passed))

    def test_one_person_more_than_joins(self):
        for tellers in some_trees():
            people = range(len(tellers) + 1)
            for p in people:
                far = ask_tree(tellers, *[("far", p, q) for q in people])
                between = ask_tree(tellers, *[("between", p, q) for q in people])
                self.assertEqual([answered[0] for answered in between], [answered[0] + 1 for answered in far])

    def test_who_lies_between_is_as_far_from_both_as_these_from_one_another(self):
        for tellers in some_trees():
            people = range(len(tellers) + 1)
            far = [[answered[0] for answered in ask_tree(tellers, *[("far", p, q) for q in people])] for p in people]
            for p, q in itertools.product(people, people):
                between = [k for k in people if far[p][k] + far[k][q] == far[p][q]]
                self.assertEqual(one(tellers, "between", p, q)[1:], between, (tellers, p, q))


class NothingChanges(unittest.TestCase):
    def tellings(self, people):
        """Every call that only tells, refused or not, of so many people and one more."""
        calls = [("least",), ("all",), ("ends",), ("state",)]
        for p in range(people + 1):
            calls.extend([(name, p) for name in ("hours", "plan", "first", "near")])
            calls.extend([("by", p, 1), ("could", p, list(range(people))), ("could", p, [0])])
            for q in range(people + 1):
                calls.extend([(name, p, q) for name in ("order", "part", "far", "between", "more")])
        return calls

    def test_by_a_call_that_only_tells(self):
        for tellers in ([], [0], [0, 1], [0, 0, 1, 1, 2]):
            people = len(tellers) + 1
            before = ask_tree(tellers, *look(people))
            for call in self.tellings(people):
                self.assertEqual(ask_tree(tellers, call, *look(people))[1:], before, call)

    def test_by_many_of_them(self):
        for tellers in some_trees():
            people = len(tellers) + 1
            calls = self.tellings(people)
            before = ask_tree(tellers, *look(people))
            for start in range(0, len(calls), 300):
                self.assertEqual(ask_tree(tellers, *calls[start:start + 300], *look(people))[-len(before):], before)

    def test_by_a_refusal(self):
        for tellers in some_trees():
            people = len(tellers) + 1
            refused = [("join", people), ("more", people, 0), ("more", 0, people), ("far", people, 0),
                       ("between", 0, people), ("first", people), ("near", people), ("could", 0, [0] * (people + 1))]
            if people == 1:
                refused.extend([("drop",), ("first", 0)])
            if people == 14:
                refused.extend([("join", 0), ("more", 0, 13)])
            answered = ask_tree(tellers, *refused, *look(people))
            for numbers in answered[:len(refused)]:
                self.assertEqual((len(numbers), numbers[0] < 0), (1, True))
            self.assertEqual(answered[len(refused):], ask_tree(tellers, *look(people)))


class Together(unittest.TestCase):
    def test_order_goes_by_what_parts_need(self):
        for tellers in some_trees():
            joins = neighbours(tellers)
            for p in range(len(joins)):
                for teller in [p] + joins[p]:
                    others = sorted(other for other in joins[p] if other != teller)
                    needs = dict(zip(others, ask_tree(tellers, *[("part", p, other) for other in others])))
                    ordered = sorted(others, key=lambda other: (-needs[other][0], other))
                    self.assertEqual(ask_tree(tellers, ("order", p, teller)), [[len(others)] + ordered])
                    need = max([0] + [place + needs[other][0] for place, other in enumerate(ordered, 1)])
                    whole = [need, 1 + sum(needs[other][1] for other in others)]
                    if teller == p:
                        self.assertEqual(ask_tree(tellers, ("hours", p)), [[need]])
                        self.assertEqual(whole[1], len(joins))
                    else:
                        self.assertEqual(ask_tree(tellers, ("part", teller, p)), [whole])

    def test_plan_goes_by_order(self):
        for tellers in some_trees():
            for p in range(len(tellers) + 1):
                told = {p: 0}
                waiting = [(p, p)]
                for person, teller in waiting:
                    for place, called in enumerate(ask_tree(tellers, ("order", person, teller))[0][1:], 1):
                        told[called] = told[person] + place
                        waiting.append((called, person))
                self.assertEqual(ask_tree(tellers, ("plan", p))[0][1:], [told[k] for k in range(len(tellers) + 1)])

    def test_first_is_the_first_of_the_order(self):
        for tellers in some_trees():
            for p in range(len(tellers) + 1):
                first, order = ask_tree(tellers, ("first", p), ("order", p, p))
                if order[0] == 0:
                    self.assertEqual(first, [-6])
                else:
                    self.assertEqual(first, [order[1]] + one(tellers, "part", p, order[1])[:1])

    def test_least_and_all_agree_with_hours(self):
        for tellers in some_trees():
            hours = [answered[0] for answered in ask_tree(tellers, *[("hours", p) for p in range(len(tellers) + 1)])]
            self.assertEqual(ask_tree(tellers, ("least",), ("all",)), [[min(hours)], [max(hours)] + hours])


if __name__ == "__main__":
    unittest.main()
