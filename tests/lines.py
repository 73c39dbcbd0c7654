"""What the tests write a line of calls with, and what they read its answers with."""

from surelytold.terms import answers

FAR = 9007199254740992
ONES = [1, 1, 1, 1, 1, 1, 1, 1]
BEGIN = [0]
STREAM = [1]


def feed(item, term):
    return [2, item, term]


def close(item):
    return [3, item]


def node(x, y, numbers=ONES):
    return [4, x, y, len(numbers)] + list(numbers)


def fed(item, terms):
    return [feed(item, term) for term in terms]


def line(calls):
    """The calls, each a list, one behind another in one list."""
    return [number for call in calls for number in call]


def whole(numbers):
    """The list that is given back when each call answers one number."""
    return [part for number in numbers for part in (1, number)]


def split(given):
    """Each call's numbers, out of the list that is given back."""
    parts = []
    at = 0
    while at < len(given):
        parts.append(given[at + 1:at + 1 + given[at]])
        if len(parts[-1]) != given[at] or given[at] < 1:
            raise AssertionError(f"no list of answers: {given!r}")
        at += 1 + given[at]
    return parts


def asked(calls):
    """The list that is given back for these calls."""
    return answers(line(calls))
