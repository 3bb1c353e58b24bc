"""The tree of people, and how news goes through it.

joined holds for each person to whom they were joined; the first was joined to nobody.
A part is told by whose it is and by who told them. Where nobody told them, the person
stands in that place once more: nobody is joined with themselves, so nobody is left out.
"""

NOBODY = -1


def are_joined(joined, one, other):
    return joined[one] == other or joined[other] == one


def side(joined, person, teller):
    """All whom the person is joined with, rising, but for the one who told them."""
    return [other for other in range(len(joined)) if other != teller and are_joined(joined, person, other)]


def ends(joined):
    """All who are joined with just one, rising."""
    return [person for person in range(len(joined)) if len(side(joined, person, person)) == 1]


def way(joined, one, other):
    """All who lie on the way between the two, both too, rising."""
    passed = []
    while one != other:
        # Everybody was joined to a lesser number, so the way from the greater begins with whom they were joined to.
        greater = max(one, other)
        passed.append(greater)
        other = min(one, other)
        one = joined[greater]
    passed.append(one)
    return sorted(passed)


def size(joined, person, teller):
    """How many people the person's part has."""
    return 1 + sum([size(joined, other, person) for other in side(joined, person, teller)])


def ranked(joined, person, teller):
    """Whom the person calls, in order, each behind how many hours their part needs, below 0."""
    # Below 0, so that rising pairs put the longest first and yet, of alike ones, the lesser number.
    return sorted([(-need(joined, other, person), other) for other in side(joined, person, teller)])


def need(joined, person, teller):
    """In how few hours all of the person's part know, once the person does."""
    most = 0
    for place, pair in enumerate(ranked(joined, person, teller), start=1):
        most = max(most, place - pair[0])
    return most


def hours_from_each(joined):
    """Of each person, in how few hours all know, from them."""
    return [need(joined, person, person) for person in range(len(joined))]


def calling_order(joined, person, teller):
    """Whom the person calls, in order."""
    return [pair[1] for pair in ranked(joined, person, teller)]


def tell(joined, person, teller, hours):
    """Put into hours when each of the person's part is told; the person's own hour is there."""
    for place, called in enumerate(calling_order(joined, person, teller), start=1):
        hours[called] = hours[person] + place
        tell(joined, called, person, hours)


def plan_hours(joined, person):
    """The hour in which each is told, by the plan from the person."""
    hours = [0] * len(joined)
    tell(joined, person, person, hours)
    return hours


def part_could(joined, person, teller, hours):
    """Whether the person's part could be told in these hours, the person's own taken as it is."""
    others = side(joined, person, teller)
    told = [hours[other] for other in others]
    if min(told, default=hours[person] + 1) <= hours[person]:
        return False
    if len(set(told)) < len(told):
        return False
    return all([part_could(joined, other, person, hours) for other in others])


def could_be(joined, person, hours):
    """Whether all could be told in these hours, from the person."""
    return hours[person] == 0 and part_could(joined, person, person, hours)
