"""Calls by their names in, one list of numbers for each call out."""

import itertools
import random

from newstree.news import answers

CALL_NAMES = ("begin", "join", "drop", "hours", "plan", "order", "could", "by", "part", "far", "between",
              "first", "more", "least", "all", "near", "ends", "state")
GREATEST = 4294967295


def flat(calls):
    """("could", 0, [0, 1]) and its like as the one list of whole numbers that the program takes."""
    numbers = []
    for call in calls:
        numbers.append(CALL_NAMES.index(call[0]))
        for argument in call[1:]:
            if isinstance(argument, list):
                numbers.append(len(argument))
                numbers.extend(argument)
            else:
                numbers.append(argument)
    return numbers


def ask(*calls):
    """What each call answers, as a list of lists."""
    given = answers(flat(calls))
    parts = []
    start = 0
    for call in calls:
        end = start + 1 + given[start]
        parts.append(given[start + 1:end])
        start = end
    if start != len(given):
        raise AssertionError("more is answered than was called")
    return parts


def built(tellers):
    """The calls that make a tree: tellers[k] is to whom person k + 1 is joined."""
    return [("begin",)] + [("join", teller) for teller in tellers]


def ask_tree(tellers, *calls):
    """What the calls answer on such a tree, without the answers of its making."""
    made = built(tellers)
    return ask(*made, *calls)[len(made):]


def one(tellers, *call):
    """What one call answers on such a tree."""
    return ask_tree(tellers, call)[0]


def all_trees(people):
    """Every way to make a tree of so many people."""
    return itertools.product(*[range(k) for k in range(1, people)])


def neighbours(tellers):
    """Of each person, whom they are joined with."""
    joins = [[] for person in range(len(tellers) + 1)]
    for k, teller in enumerate(tellers):
        joins[k + 1].append(teller)
        joins[teller].append(k + 1)
    return joins


def nearer_ones(tellers, origin):
    """Of each person, who is nearer to the origin and joined with them; of the origin None."""
    joins = neighbours(tellers)
    nearer = {origin: None}
    waiting = [origin]
    for person in waiting:
        for other in joins[person]:
            if other not in nearer:
                nearer[other] = person
                waiting.append(other)
    return nearer


def way_between(tellers, one_end, other_end):
    """Whom one passes from one end to the other, both too, in order."""
    nearer = nearer_ones(tellers, other_end)
    passed = [one_end]
    while passed[-1] != other_end:
        passed.append(nearer[passed[-1]])
    return passed


def some_trees():
    """Trees of up to fourteen people, the same each time."""
    chance = random.Random(14)
    trees = [LONG_ROW, STAR]
    for people in list(range(1, 15)) * 8:
        trees.append([chance.randrange(k) for k in range(1, people)])
        trees.append([chance.randrange(max(0, k - 3), k) for k in range(1, people)])
    return trees


def look(people):
    """Calls that show all there is of a tree of so many people, and that there are no more."""
    calls = [("state",), ("all",), ("ends",), ("hours", people)]
    for p in range(people):
        calls.extend([("plan", p), ("near", p)])
    return calls


ROW = [0, 1, 2, 3]
# A row of fourteen, and a star of fourteen whose middle is 0.
LONG_ROW = list(range(13))
STAR = [0] * 13
