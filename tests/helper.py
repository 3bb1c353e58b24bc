"""Calls by their names in, one list of numbers for each call out."""

import itertools

from newstree.news import answers

CALL_NAMES = ("begin", "join", "drop", "hours", "plan", "order", "could", "by", "part", "far", "between",
              "first", "more", "least", "all", "near", "ends", "state")
GREATEST = 4294967295


def flat(calls):
    """("could", 0, [0, 1]) and its like as the one list of whole numbers that the program takes."""
    numbers = []
    for call in calls:
        numbers.append(CALL_NAMES.index(call[0]))
        for argument in call[1:]:
            if isinstance(argument, list):
                numbers.append(len(argument))
                numbers.extend(argument)
            else:
                numbers.append(argument)
    return numbers


def ask(*calls):
    """What each call answers, as a list of lists."""
    given = answers(flat(calls))
    parts = []
    start = 0
    for call in calls:
        end = start + 1 + given[start]
        parts.append(given[start + 1:end])
        start = end
    if start != len(given):
        raise AssertionError("more is answered than was called")
    return parts


def built(tellers):
    """The calls that make a tree: tellers[k] is to whom person k + 1 is joined."""
    return [("begin",)] + [("join", teller) for teller in tellers]


def ask_tree(tellers, *calls):
    """What the calls answer on such a tree, without the answers of its making."""
    made = built(tellers)
    return ask(*made, *calls)[len(made):]


def one(tellers, *call):
    """What one call answers on such a tree."""
    return ask_tree(tellers, call)[0]


def all_trees(people):
    """Every way to make a tree of so many people."""
    return itertools.product(*[range(k) for k in range(1, people)])


def neighbours(tellers):
    """Of each person, whom they are joined with."""
    joins = [[] for person in range(len(tellers) + 1)]
    for k, teller in enumerate(tellers):
        joins[k + 1].append(teller)
        joins[teller].append(k + 1)
    return joins


def look(people):
    """Calls that show all there is of a tree of so many people."""
    calls = []
    for p in range(people):
        calls.append(("plan", p))
        for q in range(people):
            calls.append(("order", p, q))
            calls.append(("part", p, q))
    # The next one's number tells how many there are; taken back at once.
    return calls + [("hours", people), ("join", 0), ("drop",)]


ROW = [0, 1, 2, 3]
# A row of fourteen, and a star of fourteen whose middle is 0.
LONG_ROW = list(range(13))
STAR = [0] * 13
