"""What the tests write a line of calls with, and what they read its answers with."""

import inspect
import sys
import unittest
from fractions import Fraction

from surelytold.terms import answers

FAR = 9007199254740992
ONES = [1, 1, 1, 1, 1, 1, 1, 1]
BEGIN = [0]
STREAM = [1]

# Numbers of nodes, by what they make of x and y.
SUM = [0, 1, 1, 0, 0, 0, 0, 1]
LESS = [0, 1, -1, 0, 0, 0, 0, 1]
TIMES = [1, 0, 0, 0, 0, 0, 0, 1]
BY = [0, 1, 0, 0, 0, 0, 1, 0]
ONLY_X = [0, 1, 0, 0, 0, 0, 0, 1]
ONLY_Y = [0, 0, 1, 0, 0, 0, 0, 1]
ONE_BY_X = [0, 0, 0, 1, 0, 1, 0, 0]


def feed(item, term):
    return [2, item, term]


def close(item):
    return [3, item]


def node(x, y, numbers=ONES):
    return [4, x, y, len(numbers)] + list(numbers)


def sure(item):
    return [5, item]


def ends(item):
    """The call range."""
    return [6, item]


def digits(item, p):
    return [7, item, p]


def may(item, n, d):
    return [8, item, n, d]


def fed(item, terms):
    return [feed(item, term) for term in terms]


def of_x(b, d, h=1):
    """The numbers of a node that is (b x + d) / h, whatever y is."""
    return [0, b, 0, d, 0, 0, 0, h]


def line(calls):
    """The calls, each a list, one behind another in one list."""
    return [number for call in calls for number in call]


def counted(parts):
    """The list that is given back when the calls answer these lists."""
    return [number for part in parts for number in [len(part)] + list(part)]


def whole(numbers):
    """The list that is given back when each call answers one number."""
    return counted([[number] for number in numbers])


def split(given):
    """Each call's numbers, out of the list that is given back."""
    parts = []
    at = 0
    while at < len(given):
        parts.append(given[at + 1:at + 1 + given[at]])
        if len(parts[-1]) != given[at] or given[at] < 1:
            raise AssertionError(f"no list of answers: {given!r}")
        at += 1 + given[at]
    return parts


def asked(calls):
    """The list that is given back for these calls."""
    return answers(line(calls))


def given_with_few_calls_within(calls):
    """What is given back where only some calls within one another are allowed."""
    handed = line(calls)
    limit = sys.getrecursionlimit()
    sys.setrecursionlimit(len(inspect.stack(0)) + 40)
    try:
        return answers(handed)
    finally:
        sys.setrecursionlimit(limit)


def number_of(terms):
    number = Fraction(terms[-1])
    for term in reversed(terms[:-1]):
        number = term + 1 / number
    return number


def terms_of(number):
    above, below = number.numerator, number.denominator
    terms = []
    while below:
        terms.append(above // below)
        above, below = below, above % below
    return terms


def streams_made(told):
    """Calls that make a stream of each of these lists of terms, and what they answer; None behind terms closes."""
    made = []
    for item, terms in enumerate(told):
        made.append((STREAM, [item]))
        for place, term in enumerate(terms):
            made.append((close(item), [0]) if term is None else (feed(item, term), [place + 1]))
    return made


class LineCase(unittest.TestCase):
    def check(self, told, more):
        """Streams of these terms, then these calls, each with what it answers: the whole list that is given back."""
        both = streams_made(told) + more
        self.assertEqual(asked([call for call, answered in both]), counted([answered for call, answered in both]))

    def check_node(self, told, numbers, more, x=0, y=None):
        """The same with a node behind the streams: of item 0 and the last stream, if not told otherwise."""
        y = len(told) - 1 if y is None else y
        self.check(told, [(node(x, y, numbers), [len(told)])] + more)
