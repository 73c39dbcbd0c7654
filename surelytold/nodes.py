"""A node: (a x y + b x + c y + d) / (e x y + f x + g y + h) of two items x and y; and what an item may be.

While the lower part has one sign, the value only grows, only falls or stays as x alone or y alone grows. So its
least and its greatest lie at corners: x at one of both its ends and y at one of both its ends.
"""

from surelytold.spans import End, Span, compared
from surelytold.streams import Stream, stream_span, sure_stream


# Tells x and y by their items' numbers, and a to h, in this order, as factors.
class Node:
    def __init__(self, x, y, factors):
        self.x = x
        self.y = y
        self.factors = factors


# In this order the corners are told everywhere below.
def corner_pairs(x, y):
    return [
        (x.least, y.least), (x.least, y.greatest),
        (x.greatest, y.least), (x.greatest, y.greatest),
    ]


# The upper or the lower part at a corner, by its four factors, times what's below of x and of y: so it's whole.
def part_value(factors, pair):
    x = pair[0]
    y = pair[1]
    both = factors[0] * x.above * y.above
    first = factors[1] * x.above * y.below
    second = factors[2] * x.below * y.above
    return both + first + second + factors[3] * x.below * y.below


# Answers None where the lower part isn't of one sign. Whether the node may be a corner's value is not told yet:
# that hangs on the corners that have the same one.
def corner_values(factors, pairs):
    above = [part_value(factors[:4], pair) for pair in pairs]
    below = [part_value(factors[4:], pair) for pair in pairs]
    if below[0] < 0:
        above = [-number for number in above]
        below = [-number for number in below]
    if not all([number > 0 for number in below]):
        return None
    return [End(above[place], below[place], False) for place in range(len(pairs))]


# Whether a value may be had with one item at this end, while the other one runs over all that it may be; at_least
# and at_greatest tell whether it's had at the other one's ends. If it's had at both, it's had all along.
def had_along(end, other, at_least, at_greatest):
    if not end.taken:
        return False
    if at_least and at_greatest:
        return True
    return (at_least and other.least.taken) or (at_greatest and other.greatest.taken)


# Whether the node may be its least or its greatest; at tells which corners have that value.
def may_be_had(x, y, at):
    if all(at):
        return True
    if had_along(x.least, y, at[0], at[1]) or had_along(x.greatest, y, at[2], at[3]):
        return True
    return had_along(y.least, x, at[0], at[2]) or had_along(y.greatest, x, at[1], at[3])


def node_end(x, y, corners, end):
    at = [compared(corner.above, corner.below, end) == 0 for corner in corners]
    return End(end.above, end.below, may_be_had(x, y, at))


def node_span(factors, x, y):
    if x is None or y is None:
        return None
    corners = corner_values(factors, corner_pairs(x, y))
    if corners is None:
        return None
    least = corners[0]
    greatest = corners[0]
    for corner in corners:
        if compared(corner.above, corner.below, least) < 0:
            least = corner
        if compared(corner.above, corner.below, greatest) > 0:
            greatest = corner
    return Span(node_end(x, y, corners, least), node_end(x, y, corners, greatest))


def entry_span(entry, spans):
    if isinstance(entry, Stream):
        return stream_span(entry)
    return node_span(entry.factors, spans[entry.x], spans[entry.y])


# What the item may be. All items before it are gone through in their order, as nodes are put together of earlier
# ones alone; each is kept as a node takes it, so a node as the stream of its sure terms.
def item_span(entries, item):
    spans = []
    for entry in entries[:item]:
        span = entry_span(entry, spans)
        if isinstance(entry, Node):
            span = stream_span(sure_stream(span))
        spans.append(span)
    return entry_span(entries[item], spans)
