"""What a number may be: all from a least one to a greatest one.

An End is one of both, the fraction above / below (below is above 0), and whether the number may be that itself.
A Span has the two Ends. It is never empty: if both are one fraction, the number is that one alone.
"""


class End:
    def __init__(self, above, below, taken):
        self.above = above
        self.below = below
        self.taken = taken


class Span:
    def __init__(self, least, greatest):
        self.least = least
        self.greatest = greatest


# Below 0, at 0 or above 0, as the fraction is less than, the same as or greater than the end: all without dividing.
def compared(above, below, end):
    return above * end.below - end.above * below


def is_alone(span):
    return compared(span.least.above, span.least.below, span.greatest) == 0


# Even if the least itself is left out, what lies a little above it has the same whole part.
def whole_part_of_least(end, times):
    return end.above * times // end.below


# If the greatest itself is left out and is a whole number, what lies a little below it has the whole part before.
def whole_part_of_greatest(end, times):
    if end.taken:
        return end.above * times // end.below
    return (end.above * times - 1) // end.below


# Answers None where the numbers of the span don't all have the same one.
def shared_whole_part(span, times):
    part = whole_part_of_least(span.least, times)
    if whole_part_of_greatest(span.greatest, times) == part:
        return part
    return None


def lies_within(span, above, below):
    over_least = compared(above, below, span.least)
    over_greatest = compared(above, below, span.greatest)
    if over_least == 0:
        return span.least.taken
    if over_greatest == 0:
        return span.greatest.taken
    return over_least > 0 and over_greatest < 0


# What becomes of an end where the whole part that all numbers share is taken off and 1 is divided by the rest: then
# what was less is greater.
def turned(end, part):
    return End(end.below, end.above - part * end.below, end.taken)


def terms_of_fraction(above, below):
    terms = []
    while below != 0:
        parts = divmod(above, below)
        terms.append(parts[0])
        above = below
        below = parts[1]
    return terms


# The first terms that all numbers of the span have, as many as can be.
def shared_terms(span):
    # Only for speed: both ends would be gone through alike, and they may be long.
    if is_alone(span):
        return terms_of_fraction(span.least.above, span.least.below)
    terms = []
    part = shared_whole_part(span, 1)
    while part is not None:
        terms.append(part)
        # Where the least is the whole part, the terms end there, or else the next one has no greatest.
        if span.least.above == part * span.least.below:
            return terms
        span = Span(turned(span.greatest, part), turned(span.least, part))
        part = shared_whole_part(span, 1)
    return terms


def greatest_divisor(first, second):
    while second != 0:
        rest = first % second
        first = second
        second = rest
    return first


# As range answers it.
def told_end(end):
    divisor = greatest_divisor(abs(end.above), end.below)
    return [1 if end.taken else 0, end.above // divisor, end.below // divisor]
