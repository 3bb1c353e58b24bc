"""What holds: a, b, c, and what binds hours, plan, by, order and part together."""

import itertools
import random
import unittest

from tests.helper import LONG_ROW, STAR, all_trees, ask_tree, neighbours


def fewest_hours(joins, origin):
    """By trying every call that everybody can make, hour by hour."""
    everybody = len(joins)
    states = {frozenset([origin])}
    hours = 0
    while not any(len(state) == everybody for state in states):
        later = set()
        for state in states:
            choices = [[other for other in joins[person] if other not in state] for person in sorted(state)]
            for calls in itertools.product(*[choice for choice in choices if choice]):
                later.add(state.union(calls))
        states = later
        hours += 1
    return hours


def farthest(joins, origin):
    """How many joins the farthest is away."""
    known = {origin}
    edge = [origin]
    away = -1
    while edge:
        away += 1
        edge = sorted({other for person in edge for other in joins[person]} - known)
        known.update(edge)
    return away


def some_trees():
    """Trees of up to fourteen people, the same each time."""
    chance = random.Random(14)
    trees = [LONG_ROW, STAR]
    for people in list(range(1, 15)) * 8:
        trees.append([chance.randrange(k) for k in range(1, people)])
        trees.append([chance.randrange(max(0, k - 3), k) for k in range(1, people)])
    return trees


class NoPlanIsSooner(unittest.TestCase):
    def test_on_every_small_tree(self):
        for people in range(1, 7):
            for tellers in all_trees(people):
                joins = neighbours(tellers)
                plans = ask_tree(tellers, *[("plan", p) for p in range(people)])
                for p in range(people):
                    self.assertEqual(plans[p][0], fewest_hours(joins, p), (tellers, p))

    def test_on_some_greater_trees(self):
        for tellers in ([0, 0, 0, 1, 1, 2, 3, 4], [0, 1, 2, 0, 4, 0, 1, 7], [0, 1, 1, 2, 2, 3, 3, 0]):
            joins = neighbours(tellers)
            for p in range(9):
                self.assertEqual(ask_tree(tellers, ("hours", p)), [[fewest_hours(joins, p)]], (tellers, p))


class Bounds(unittest.TestCase):
    def test_all_is_told_just_then_by_a_plan_that_could_be(self):
        for tellers in some_trees():
            for p in range(len(tellers) + 1):
                plan = ask_tree(tellers, ("plan", p))[0]
                self.assertEqual(len(plan), len(tellers) + 2)
                self.assertEqual(plan[0], max(plan[1:]))
                self.assertEqual(ask_tree(tellers, ("hours", p), ("could", p, plan[1:])), [[plan[0]], [1, plan[0]]])

    def test_no_more_know_than_by_doubling(self):
        for tellers in some_trees():
            for p in range(len(tellers) + 1):
                plan = ask_tree(tellers, ("plan", p))[0]
                counts = ask_tree(tellers, *[("by", p, h) for h in range(16)])
                for h in range(16):
                    self.assertEqual(counts[h], [len([hour for hour in plan[1:] if hour <= h])])
                    self.assertLessEqual(counts[h][0], 2 ** h)

    def test_no_sooner_than_the_farthest_and_than_anybody_has_to_call(self):
        for tellers in some_trees():
            joins = neighbours(tellers)
            for p in range(len(joins)):
                hours = ask_tree(tellers, ("hours", p))[0][0]
                self.assertGreaterEqual(hours, farthest(joins, p))
                self.assertGreaterEqual(hours, max(len(others) for others in joins))


class Together(unittest.TestCase):
    def test_order_goes_by_what_parts_need(self):
        for tellers in some_trees():
            joins = neighbours(tellers)
            for p in range(len(joins)):
                for teller in [p] + joins[p]:
                    others = sorted(other for other in joins[p] if other != teller)
                    needs = dict(zip(others, ask_tree(tellers, *[("part", p, other) for other in others])))
                    ordered = sorted(others, key=lambda other: (-needs[other][0], other))
                    self.assertEqual(ask_tree(tellers, ("order", p, teller)), [[len(others)] + ordered])
                    need = max([0] + [place + needs[other][0] for place, other in enumerate(ordered, 1)])
                    whole = [need, 1 + sum(needs[other][1] for other in others)]
                    if teller == p:
                        self.assertEqual(ask_tree(tellers, ("hours", p)), [[need]])
                        self.assertEqual(whole[1], len(joins))
                    else:
                        self.assertEqual(ask_tree(tellers, ("part", teller, p)), [whole])

    def test_plan_goes_by_order(self):
        for tellers in some_trees():
            for p in range(len(tellers) + 1):
                told = {p: 0}
                waiting = [(p, p)]
                for person, teller in waiting:
                    for place, called in enumerate(ask_tree(tellers, ("order", person, teller))[0][1:], 1):
                        told[called] = told[person] + place
                        waiting.append((called, person))
                self.assertEqual(ask_tree(tellers, ("plan", p))[0][1:], [told[k] for k in range(len(tellers) + 1)])


if __name__ == "__main__":
    unittest.main()
