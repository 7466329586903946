"""How the tests write calls, and take the answers apart."""

from bucketrow.passing import answers


def begin():
    return [0]


def person(spills, a, b, time):
    return [1, spills, a, b, time]


def comes(measures, order):
    return [2, measures, len(order)] + list(order)


def needs(measures, order):
    return [3, measures, len(order)] + list(order)


def best(measures):
    return [4, measures]


def exchange(measures):
    return [5, measures]


def soon(k):
    return [6, k]


def come(moment):
    return [7, moment]


def water(measures, moment):
    return [8, measures, moment]


def swap(number, other):
    return [9, number, other]


def leave(number):
    return [10, number]


def order(measures):
    return [11, measures]


def look():
    return [12]


def joined(calls):
    return [number for call in calls for number in call]


def split(given):
    parts = []
    start = 0
    while start < len(given):
        end = start + 1 + given[start]
        if given[start] < 1 or end > len(given):
            raise AssertionError(f"a wrong count at {start}: {given}")
        parts.append(given[start + 1:end])
        start = end
    return parts


def ask(calls):
    """The answers to these calls, a list for each."""
    parts = split(answers(joined(calls)))
    if len(parts) != len(calls):
        raise AssertionError(f"{len(calls)} calls, {len(parts)} answers")
    return parts


def row_of(people):
    return [begin()] + [person(*one) for one in people]


def ask_row(people, calls):
    """The answers to these calls, of a row of these people."""
    return ask(row_of(people) + calls)[1 + len(people):]


def seen(people):
    """What look answers of a row of these people."""
    return [len(people)] + joined(people)


def ask_one(people, call):
    return ask_row(people, [call])[0]
