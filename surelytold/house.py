"""The house that a line's calls are about: its items by their numbers, from 0 on, and a method for each call.

Every call answers a list of whole numbers; a refusal is one number below 0, alone in its list.
"""

from surelytold.nodes import Node, item_span
from surelytold.spans import lies_within, shared_whole_part, told_end
from surelytold.streams import Stream, can_end, sure_stream

BAD_NUMBER = -1
NO_ITEM = -2
NO_END = -3
NO_MORE = -4
FULL = -5
NOT_KNOWN = -7

MOST_ITEMS = 8
MOST_TERMS = 30
MOST_DIGITS = 30
FACTORS = 8
BOUND = 1000


def in_bounds(number):
    return -BOUND <= number <= BOUND


def can_follow(terms, term):
    if not in_bounds(term):
        return False
    return len(terms) == 0 or term >= 1


def are_factors(numbers):
    return len(numbers) == FACTORS and all([in_bounds(number) for number in numbers])


def ten_times(count):
    product = 1
    for step in range(count):
        product = product * 10
    return product


# Of several refusals the one told first is answered: so each call asks for them in the document's order,
# and changes nothing before the last one is ruled out.
class House:
    def __init__(self):
        self.entries = []

    def has_item(self, item):
        return 0 <= item < len(self.entries)

    def is_full(self):
        return len(self.entries) >= MOST_ITEMS

    # Answers None for a node, too: to the calls that want a stream, a node is as good as no item.
    def find_stream(self, item):
        if not self.has_item(item):
            return None
        entry = self.entries[item]
        if isinstance(entry, Stream):
            return entry
        return None

    def put(self, entry):
        self.entries.append(entry)
        return [len(self.entries) - 1]

    def begin(self):
        self.entries = []
        return [0]

    def stream(self):
        if self.is_full():
            return [FULL]
        return self.put(Stream([], False))

    def feed(self, item, term):
        fed = self.find_stream(item)
        if fed is None:
            return [NO_ITEM]
        if fed.ended:
            return [NO_MORE]
        if not can_follow(fed.terms, term):
            return [BAD_NUMBER]
        if len(fed.terms) >= MOST_TERMS:
            return [FULL]
        fed.terms.append(term)
        return [len(fed.terms)]

    def close(self, item):
        closed = self.find_stream(item)
        if closed is None:
            return [NO_ITEM]
        if closed.ended:
            return [NO_MORE]
        if not can_end(closed.terms):
            return [NO_END]
        closed.ended = True
        return [0]

    def node(self, x, y, numbers):
        if not self.has_item(x) or not self.has_item(y):
            return [NO_ITEM]
        if not are_factors(numbers):
            return [BAD_NUMBER]
        if self.is_full():
            return [FULL]
        return self.put(Node(x, y, tuple(numbers)))

    def sure(self, item):
        if not self.has_item(item):
            return [NO_ITEM]
        told = self.find_stream(item)
        if told is None:
            told = sure_stream(item_span(self.entries, item))
        return [1 if told.ended else 0] + told.terms

    def ends(self, item):
        if not self.has_item(item):
            return [NO_ITEM]
        span = item_span(self.entries, item)
        if span is None:
            return [NOT_KNOWN]
        return [0] + told_end(span.least) + told_end(span.greatest)

    def digits(self, item, count):
        if not self.has_item(item):
            return [NO_ITEM]
        if count > MOST_DIGITS:
            return [BAD_NUMBER]
        span = item_span(self.entries, item)
        if span is None:
            return [NOT_KNOWN]
        part = shared_whole_part(span, ten_times(count))
        if part is None:
            return [NOT_KNOWN]
        return [0, part]

    def may(self, item, above, below):
        if not self.has_item(item):
            return [NO_ITEM]
        if below == 0:
            return [BAD_NUMBER]
        span = item_span(self.entries, item)
        if span is None or lies_within(span, above, below):
            return [1]
        return [0]
