"""The calls on one object, read from a list of whole numbers and answered as one."""

from newstree.tree import NOBODY, are_joined, calling_order, could_be, ends, hours_from_each, need, plan_hours
from newstree.tree import ranked, side, size, way

MOST_PEOPLE = 14

NONE_SUCH = -2
NONE_ELSE = -6
NOT_BEGUN = -11
NOT_JOINED = -22
NOT_ONE_EACH = -22
TOO_MANY = -28

BEGIN = 0
COULD = 6

# By a call's number: how many whole numbers it has, and how many of them, ahead, are people.
NUMBERS = (0, 1, 0, 1, 1, 2, 1, 2, 2, 2, 2, 1, 2, 0, 0, 1, 0, 0)
PEOPLE = (0, 1, 0, 1, 1, 2, 1, 1, 2, 2, 2, 1, 2, 0, 0, 1, 0, 0)


def counted(people):
    """How many they are, then these."""
    return [len(people)] + people


def answer_begin(joined, numbers):
    joined.clear()
    joined.append(NOBODY)
    return [0]


def answer_join(joined, numbers):
    if len(joined) == MOST_PEOPLE:
        return [TOO_MANY]
    joined.append(numbers[0])
    return [len(joined) - 1]


def answer_drop(joined, numbers):
    if len(joined) == 1:
        return [NONE_ELSE]
    joined.pop()
    return [len(joined)]


def answer_hours(joined, numbers):
    return [need(joined, numbers[0], numbers[0])]


def answer_plan(joined, numbers):
    return answer_hours(joined, numbers) + plan_hours(joined, numbers[0])


def answer_order(joined, numbers):
    person = numbers[0]
    teller = numbers[1]
    if person != teller and not are_joined(joined, person, teller):
        return [NOT_JOINED]
    return counted(calling_order(joined, person, teller))


def answer_could(joined, numbers):
    # numbers[1] is how many hours there are.
    hours = numbers[2:]
    if len(hours) != len(joined):
        return [NOT_ONE_EACH]
    return [1 if could_be(joined, numbers[0], hours) else 0, max(hours)]


def answer_by(joined, numbers):
    return [len([hour for hour in plan_hours(joined, numbers[0]) if hour <= numbers[1]])]


def answer_part(joined, numbers):
    viewer = numbers[0]
    person = numbers[1]
    if not are_joined(joined, viewer, person):
        return [NOT_JOINED]
    return [need(joined, person, viewer), size(joined, person, viewer)]


def answer_far(joined, numbers):
    return [len(way(joined, numbers[0], numbers[1])) - 1]


def answer_between(joined, numbers):
    return counted(way(joined, numbers[0], numbers[1]))


def answer_first(joined, numbers):
    pairs = ranked(joined, numbers[0], numbers[0])
    if len(pairs) == 0:
        return [NONE_ELSE]
    return [pairs[0][1], -pairs[0][0]]


def answer_more(joined, numbers):
    if len(joined) == MOST_PEOPLE:
        return [TOO_MANY]
    person = numbers[0]
    return [need(joined + [numbers[1]], person, person), need(joined, person, person)]


def answer_least(joined, numbers):
    return [min(hours_from_each(joined))]


def answer_all(joined, numbers):
    hours = hours_from_each(joined)
    return [max(hours)] + hours


def answer_near(joined, numbers):
    return counted(side(joined, numbers[0], numbers[0]))


def answer_ends(joined, numbers):
    return counted(ends(joined))


def answer_state(joined, numbers):
    return [len(joined)] + joined[1:]


ANSWERERS = (
    answer_begin,
    answer_join,
    answer_drop,
    answer_hours,
    answer_plan,
    answer_order,
    answer_could,
    answer_by,
    answer_part,
    answer_far,
    answer_between,
    answer_first,
    answer_more,
    answer_least,
    answer_all,
    answer_near,
    answer_ends,
    answer_state,
)


def call_length(calls, start):
    """How many numbers the call that starts there has, its own number too."""
    call = calls[start]
    length = 1 + NUMBERS[call]
    if call == COULD:
        length = length + 1 + calls[start + length]
    return length


def answer(joined, call, numbers):
    """What one call answers. Nobody is in joined till there's a begin."""
    if call != BEGIN and len(joined) == 0:
        return [NOT_BEGUN]
    for person in numbers[:PEOPLE[call]]:
        if not 0 <= person < len(joined):
            return [NONE_SUCH]
    answerer = ANSWERERS[call]
    return answerer(joined, numbers)


def answers(calls):
    """Of each call, in order, how many numbers are answered, and these."""
    joined = []
    given = []
    start = 0
    while start < len(calls):
        end = start + call_length(calls, start)
        answered = answer(joined, calls[start], calls[start + 1:end])
        given.append(len(answered))
        given.extend(answered)
        start = end
    return given
