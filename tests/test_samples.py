"""The four telling calls against numbers that an item may be, picked by what the words say a number's terms are.

Of a stream, numbers are picked whose terms begin so, among them some that come very near to both ends; of a node,
the values for each two such numbers. So what is told must hold for all of them, and for no longer than that.
"""

import random
import unittest
from fractions import Fraction

from lines import STREAM, asked, close, digits, ends, feed, may, node, number_of, split, sure, terms_of

HUGE = 10 ** 60
TAILS = ([], [HUGE], [1, HUGE], [2], [1, 2], [1, 1, 3], [7, 4])
NEAR = Fraction(1, 10 ** 40)
LOWER_PARTS = ([0, 0, 0, 1], [0, 0, 0, -2], [0, 1, 0, 0], [0, 0, 1, 0], [1, 0, 0, 0], [0, 1, 1, 0], [1, 1, 1, 1])


def shared_beginning(rows):
    shared = []
    for places in zip(*rows):
        if any(term != places[0] for term in places):
            break
        shared.append(places[0])
    return shared


class Picked:
    """Terms that are known of an item, whether there are no more, and numbers that it may be."""

    def __init__(self, terms, ended, numbers):
        self.terms = terms
        self.ended = ended
        self.numbers = numbers


def pick_of_stream(terms, ended):
    if not terms:
        return []
    if ended:
        return [number_of(terms)]
    rows = [terms + tail for tail in TAILS]
    return [number_of(row) for row in rows if terms_of(number_of(row)) == row]


def both_ends(picked):
    near = number_of(picked.terms)
    return [near, near if picked.ended else number_of(picked.terms[:-1] + [picked.terms[-1] + 1])]


def part(numbers, x, y):
    return numbers[0] * x * y + numbers[1] * x + numbers[2] * y + numbers[3]


def picked_node(first, second, numbers):
    nothing = Picked([], False, [])
    if not first.terms or not second.terms:
        return nothing
    lower = [part(numbers[4:], x, y) for x in both_ends(first) for y in both_ends(second)]
    if not (all(value > 0 for value in lower) or all(value < 0 for value in lower)):
        return nothing
    # As a part of another node it's known by its terms alone, whatever numbers it may be itself.
    xs = pick_of_stream(first.terms, first.ended)
    ys = pick_of_stream(second.terms, second.ended)
    values = [part(numbers[:4], x, y) / part(numbers[4:], x, y) for x in xs for y in ys]
    return Picked(shared_beginning([terms_of(value) for value in values]), len(set(values)) == 1, values)


def random_terms(source):
    count = source.choice([0, 1, 1, 1, 2, 2, 3, 4, 5])
    return [source.randint(-3, 3) if place == 0 else source.choice([1, 1, 2, 2, 3, 9]) for place in range(count)]


def random_numbers(source):
    most = source.choice([1, 1, 2, 2, 5, 1000])
    numbers = [source.randint(-most, most) for place in range(8)]
    if source.randrange(2):
        numbers[4:] = source.choice(LOWER_PARTS)
    return numbers


def random_house(source):
    """Calls that make up to five items, and what is picked of each."""
    calls = []
    picked = []
    for item in range(source.randint(1, 2)):
        terms = random_terms(source)
        ended = source.randrange(4) == 0 and len(terms) > 0 and (len(terms) == 1 or terms[-1] != 1)
        calls += [STREAM] + [feed(item, term) for term in terms] + [close(item)] * ended
        picked.append(Picked(terms, ended, pick_of_stream(terms, ended)))
    for item in range(source.randint(0, 3)):
        x, y = source.randrange(len(picked)), source.randrange(len(picked))
        numbers = random_numbers(source)
        calls.append(node(x, y, numbers))
        picked.append(picked_node(picked[x], picked[y], numbers))
    return calls, picked


class Against(unittest.TestCase):
    def told_of(self, calls, item, more):
        return split(asked(calls + [sure(item), ends(item)] + more))[len(calls):]

    def check_ends(self, given, numbers, calls):
        self.assertEqual(len(given), 7, calls)
        for end, nearest, sign in ((given[1:4], min(numbers), 1), (given[4:], max(numbers), -1)):
            fraction = Fraction(end[1], end[2])
            self.assertEqual((fraction.numerator, fraction.denominator), (end[1], end[2]), calls)
            if end[0] == 1:
                self.assertEqual(fraction, nearest, calls)
            else:
                self.assertEqual(end[0], 0, calls)
                self.assertTrue(0 < sign * (nearest - fraction) < NEAR, calls)

    def check_digits(self, given, p, numbers, calls):
        parts = {10 ** p * number.numerator // number.denominator for number in numbers}
        self.assertEqual(given, [0, parts.pop()] if len(parts) == 1 else [-7], (p, calls))

    def check_item(self, calls, item, picked, source):
        fractions = [(source.randint(-9, 9), source.randint(1, 4)) for time in range(4)]
        if picked.numbers:
            near = [number.limit_denominator(10 ** 4) for number in (min(picked.numbers), max(picked.numbers))]
            fractions += [(number.numerator, number.denominator) for number in near if abs(number) <= 100]
        more = [digits(item, p) for p in (0, 1, 2)] + [may(item, n, d) for n, d in fractions]
        given = self.told_of(calls, item, more)
        self.assertEqual(given[0], [int(picked.ended)] + picked.terms, calls)
        if not picked.numbers:
            self.assertEqual(given[1:], [[-7]] * 4 + [[1]] * len(fractions), calls)
            return
        self.check_ends(given[1], picked.numbers, calls)
        for p in (0, 1, 2):
            self.check_digits(given[2 + p], p, picked.numbers, calls)
        for fraction, answered in zip(fractions, given[5:]):
            lies = min(picked.numbers) <= Fraction(*fraction) <= max(picked.numbers)
            self.assertEqual(answered, [int(lies)], (fraction, calls))

    def test_random_houses(self):
        source = random.Random(5)
        known = 0
        for time in range(600):
            calls, picked = random_house(source)
            for item, each in enumerate(picked):
                self.check_item(calls, item, each, source)
                known += len(each.numbers) > 0 and item > 1
        # It would be worth little if most nodes were such of which nothing's known.
        self.assertGreater(known, 200)


if __name__ == "__main__":
    unittest.main()
