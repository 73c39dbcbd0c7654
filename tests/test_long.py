"""Long lines, nodes of nodes till there are 8 items, many sure terms, and numbers of thousands of digits."""

import unittest
from fractions import Fraction

from lines import BY, LESS, ONE_BY_X, STREAM, SUM, TIMES, LineCase, asked, close, counted, digits, ends, fed
from lines import given_with_few_calls_within, may, node, number_of, streams_made, sure, terms_of

FIRST = [3, 7, 15, 1, 292, 1, 1, 1, 2, 1, 3, 1, 14, 2, 1, 1, 2, 2, 2, 2, 1, 84, 2, 1, 1, 15, 3, 13, 1, 4]
SECOND = [-1000, 1000, 1, 999, 1, 1000, 2, 1, 1, 998] + [1000, 1000, 3, 1, 1, 2, 5, 7, 11, 13] + [1] * 9 + [2]
LARGE = [1000 - place for place in range(30)]
MIXTURE = [1000, -999, 998, 997, 2, 3, -5, 1]


def told_alone(number):
    """What sure, range and digits (30) answer of a number alone."""
    end = [1, number.numerator, number.denominator]
    return [[1] + terms_of(number), [0] + end + end, [0, 10 ** 30 * number.numerator // number.denominator]]


def value(numbers, x, y):
    a, b, c, d, e, f, g, h = numbers
    return (a * x * y + b * x + c * y + d) / (e * x * y + f * x + g * y + h)


class TwoClosedStreams(LineCase):
    def check_two(self, first, second, numbers):
        number = value(numbers, number_of(first), number_of(second))
        told = list(zip([sure(2), ends(2), digits(2, 30)], told_alone(number)))
        self.check_node([first + [None], second + [None]], numbers, told)

    def test_of_30_terms(self):
        # It takes more calls than a line has, but there is no other way to two such streams and a node.
        for numbers in (SUM, LESS, TIMES, BY, MIXTURE):
            self.check_two(FIRST, SECOND, numbers)
            self.check_two(SECOND, FIRST, numbers)

    def test_of_26_terms_in_60_calls(self):
        first, second = FIRST[:26], SECOND[:17] + SECOND[-9:]
        self.assertEqual(len(streams_made([first + [None], second + [None]])), 56)
        for numbers in (SUM, LESS, TIMES, BY, MIXTURE):
            self.check_two(first, second, numbers)

    def test_one_of_30_terms_taken_twice(self):
        number = value(TIMES, number_of(FIRST), number_of(FIRST))
        told = list(zip([sure(1), ends(1), digits(1, 30)], told_alone(number)))
        self.check_node([FIRST + [None]], TIMES, told)


class EightItems(LineCase):
    def deep(self, terms, numbers):
        """The calls that make a stream and seven nodes of it, each of the one before twice."""
        return [STREAM] + fed(0, terms) + [close(0)] + [node(item, item, numbers) for item in range(7)]

    def deep_number(self, terms, numbers):
        number = number_of(terms)
        for time in range(7):
            number = value(numbers, number, number)
        return number

    def test_nodes_of_nodes_with_thousands_of_digits(self):
        parts = [[0]] + [[count] for count in range(1, 31)] + [[0]] + [[item] for item in range(1, 8)]
        for terms, numbers in ((FIRST, TIMES), (FIRST, MIXTURE), (LARGE, MIXTURE)):
            calls = self.deep(terms, numbers)
            told = told_alone(self.deep_number(terms, numbers))
            self.assertTrue(told[1][2] > 10 ** 1700)
            self.assertGreater(len(told[0]), 3000)
            # The numbers may be too long to be shown, so they are not handed to assertEqual.
            self.assertTrue(asked(calls + [sure(7), ends(7), digits(7, 30)]) == counted(parts + told), numbers)

    def test_by_loops(self):
        given = given_with_few_calls_within(self.deep(LARGE, MIXTURE) + [sure(7), ends(7)])
        self.assertGreater(len(given), 10000)

    def test_nodes_of_nodes_of_an_open_stream(self):
        # Turned seven times, the first terms are 0 and the stream's own.
        terms = [5] * 29 + [1]
        near, far = number_of(terms), number_of(terms[:-1] + [2])
        least, greatest = 1 / max(near, far), 1 / min(near, far)
        self.check([terms], [(node(item, item, ONE_BY_X), [item + 1]) for item in range(7)] + [
            (sure(7), [0, 0] + terms), (sure(6), [0] + terms),
            (ends(7), [0, 0, least.numerator, least.denominator, 0, greatest.numerator, greatest.denominator]),
            (digits(7, 30), [0, 10 ** 30 * least.numerator // least.denominator]), (may(7, 1, 5), [0]),
        ])

    def test_nodes_that_lose_a_little_each_time(self):
        # Of 3 to 4 without 4 the half is from 3/2 to 2 without 2, so 1 is sure; its half from 1/2 to 1, so 0; and on.
        half = [0, 1, 0, 0, 0, 0, 0, 2]
        self.check([[3]], [(node(item, 0, half), [item + 1]) for item in range(7)] + [
            (sure(1), [0, 1]), (ends(1), [0, 1, 3, 2, 0, 2, 1]), (sure(2), [0, 0]), (ends(2), [0, 1, 1, 2, 0, 1, 1]),
            (sure(3), [0, 0]), (ends(3), [0, 1, 0, 1, 0, 1, 2]), (sure(7), [0, 0]), (ends(7), [0, 1, 0, 1, 0, 1, 2]),
        ])

    def test_each_node_of_the_two_before(self):
        # 5/2 and 7/3, and then each the sum of both before
        numbers = [Fraction(5, 2), Fraction(7, 3)]
        while len(numbers) < 8:
            numbers.append(numbers[-1] + numbers[-2])
        told = told_alone(numbers[7])
        self.check([[2, 2, None], [2, 3, None]], [(node(item - 2, item - 1, SUM), [item]) for item in range(2, 8)] + [
            (sure(7), told[0]), (ends(7), told[1]), (digits(7, 30), told[2])])


class SixtyCalls(LineCase):
    def test_telling_calls(self):
        told = [
            (sure(0), [0, 3, 7]), (ends(0), [0, 0, 25, 8, 1, 22, 7]), (digits(0, 0), [0, 3]), (may(0, 22, 7), [1]),
            (sure(1), [0, 6, 3]), (ends(1), [0, 0, 25, 4, 1, 44, 7]), (digits(1, 0), [0, 6]), (may(1, 25, 4), [0]),
        ]
        self.assertEqual(len(streams_made([[3, 7]])) + 1 + len(told * 7), 60)
        self.check_node([[3, 7]], SUM, told * 7)

    def test_each_telling_call_60_times(self):
        # with no item, then of a stream with no term
        for call, number in ((sure(0), 0), (ends(0), -7), (digits(0, 0), -7), (may(0, 1, 1), 1)):
            self.assertEqual(asked([call] * 60), [1, -2] * 60)
            self.assertEqual(asked([STREAM] + [call] * 59), [1, 0] + [1, number] * 59)


if __name__ == "__main__":
    unittest.main()
