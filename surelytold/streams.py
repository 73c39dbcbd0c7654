"""A stream: a number of which the first terms are known, and perhaps that there are no more."""

from surelytold.spans import End, Span, is_alone, shared_terms


class Stream:
    def __init__(self, terms, ended):
        self.terms = terms
        self.ended = ended


def can_end(terms):
    if len(terms) == 0:
        return False
    # What would end in 1 behind other terms has its terms told otherwise: one fewer, the last one greater.
    return len(terms) == 1 or terms[-1] != 1


# The fraction of these terms with another one in the place of the last one.
def end_behind(terms, last, taken):
    above = last
    below = 1
    for term in reversed(terms[:-1]):
        front = term * above + below
        below = above
        above = front
    return End(above, below, taken)


# None stands for the span of a number of which nothing's known, here and in the other files.
def stream_span(stream):
    terms = stream.terms
    if len(terms) == 0:
        return None
    near = end_behind(terms, terms[-1], can_end(terms))
    if stream.ended:
        return Span(near, near)
    # What comes behind the last term adds less than 1 to it.
    far = end_behind(terms, terms[-1] + 1, False)
    # Each term stands below the one before: so what makes it greater makes the number greater and less by turns.
    if len(terms) % 2 == 1:
        return Span(near, far)
    return Span(far, near)


# A node is taken so where it's put into a node, and is told so by sure.
def sure_stream(span):
    if span is None:
        return Stream([], False)
    return Stream(shared_terms(span), is_alone(span))
