"""range: of streams and of nodes; of an end 1 or 0, the number above, the number below."""

import math
import unittest

from lines import BY, LESS, ONE_BY_X, ONLY_X, ONLY_Y, SUM, TIMES, LineCase, ends, of_x, sure

LESS_FROM_Y = [0, -1, 1, 0, 0, 0, 0, 1]


class OfStreams(LineCase):
    def test_no_term(self):
        self.check([[]], [(ends(0), [-7])])

    def test_one_term(self):
        self.check([[3]], [(ends(0), [0, 1, 3, 1, 0, 4, 1])])
        self.check([[1]], [(ends(0), [0, 1, 1, 1, 0, 2, 1])])
        self.check([[0]], [(ends(0), [0, 1, 0, 1, 0, 1, 1])])
        self.check([[-1]], [(ends(0), [0, 1, -1, 1, 0, 0, 1])])
        self.check([[-4]], [(ends(0), [0, 1, -4, 1, 0, -3, 1])])
        self.check([[1000]], [(ends(0), [0, 1, 1000, 1, 0, 1001, 1])])
        self.check([[-1000]], [(ends(0), [0, 1, -1000, 1, 0, -999, 1])])

    def test_an_even_number_of_terms(self):
        self.check([[3, 7]], [(ends(0), [0, 0, 25, 8, 1, 22, 7])])
        self.check([[3, 7, 15, 2]], [(ends(0), [0, 0, 1021, 325, 1, 688, 219])])

    def test_an_odd_number_of_terms(self):
        self.check([[3, 7, 15]], [(ends(0), [0, 1, 333, 106, 0, 355, 113])])
        self.check([[1, 2, 2, 2, 2]], [(ends(0), [0, 1, 41, 29, 0, 58, 41])])

    def test_a_last_term_of_1(self):
        self.check([[3, 1]], [(ends(0), [0, 0, 7, 2, 0, 4, 1])])
        self.check([[3, 7, 1]], [(ends(0), [0, 0, 25, 8, 0, 47, 15])])
        self.check([[0, 1]], [(ends(0), [0, 0, 1, 2, 0, 1, 1])])
        self.check([[0, 1, 1]], [(ends(0), [0, 0, 1, 2, 0, 2, 3])])
        self.check([[-1, 1]], [(ends(0), [0, 0, -1, 2, 0, 0, 1])])

    def test_a_1_before_the_last_term(self):
        self.check([[1, 1, 2]], [(ends(0), [0, 1, 5, 3, 0, 7, 4])])

    def test_a_first_term_of_0(self):
        self.check([[0, 2]], [(ends(0), [0, 0, 1, 3, 1, 1, 2])])
        self.check([[0, 2, 3]], [(ends(0), [0, 1, 3, 7, 0, 4, 9])])

    def test_a_first_term_below_0(self):
        self.check([[-3, 2]], [(ends(0), [0, 0, -8, 3, 1, -5, 2])])
        self.check([[-1, 2]], [(ends(0), [0, 0, -2, 3, 1, -1, 2])])
        self.check([[-3, 2, 3]], [(ends(0), [0, 1, -18, 7, 0, -23, 9])])

    def test_closed(self):
        self.check([[3, None]], [(ends(0), [0, 1, 3, 1, 1, 3, 1])])
        self.check([[1, None]], [(ends(0), [0, 1, 1, 1, 1, 1, 1])])
        self.check([[0, None]], [(ends(0), [0, 1, 0, 1, 1, 0, 1])])
        self.check([[-7, None]], [(ends(0), [0, 1, -7, 1, 1, -7, 1])])
        self.check([[3, 7, None]], [(ends(0), [0, 1, 22, 7, 1, 22, 7])])
        self.check([[3, 7, 15, None]], [(ends(0), [0, 1, 333, 106, 1, 333, 106])])
        self.check([[-3, 2, None]], [(ends(0), [0, 1, -5, 2, 1, -5, 2])])

    def test_again_after_more_has_come(self):
        self.check([[]], [
            (ends(0), [-7]), ([2, 0, 3], [1]), (ends(0), [0, 1, 3, 1, 0, 4, 1]),
            ([2, 0, 7], [2]), (ends(0), [0, 0, 25, 8, 1, 22, 7]), ([3, 0], [0]), (ends(0), [0, 1, 22, 7, 1, 22, 7]),
        ])


class NodesAtOneCorner(LineCase):
    """x is from 3 to 4 without 4, y from 4/3 to 3/2 without 4/3."""

    def test_the_least_may_be(self):
        self.check_node([[3], [1, 2]], LESS, [(ends(2), [0, 1, 3, 2, 0, 8, 3])])

    def test_the_greatest_may_be(self):
        self.check_node([[3], [1, 2]], LESS_FROM_Y, [(ends(2), [0, 0, -8, 3, 1, -3, 2])])

    def test_neither_may_be(self):
        self.check_node([[3], [1, 2]], SUM, [(ends(2), [0, 0, 13, 3, 0, 11, 2])])
        self.check_node([[3], [1, 2]], TIMES, [(ends(2), [0, 0, 4, 1, 0, 6, 1])])

    def test_x_and_y_are_not_mixed_up(self):
        self.check_node([[3], [1, 2]], BY, [(ends(2), [0, 1, 2, 1, 0, 3, 1])])
        self.check_node([[3], [1, 2]], BY, [(ends(2), [0, 0, 1, 3, 1, 1, 2])], x=1, y=0)

    def test_one_of_both_alone(self):
        self.check_node([[3], [1, 2]], ONLY_X, [(ends(2), [0, 1, 3, 1, 0, 4, 1])])
        self.check_node([[3], [1, 2]], ONLY_Y, [(ends(2), [0, 0, 4, 3, 1, 3, 2])])
        self.check_node([[3], [1, 2]], of_x(-2, 1, 5), [(ends(2), [0, 0, -7, 5, 1, -1, 1])])

    def test_each_number_has_its_place(self):
        # x is 2, y is 3
        numbers = [2, 3, 5, 7, 11, 13, 17, 19]
        above = 2 * 6 + 3 * 2 + 5 * 3 + 7
        below = 11 * 6 + 13 * 2 + 17 * 3 + 19
        self.assertEqual((above, below), (40, 162))
        self.check_node([[2, None], [3, None]], numbers, [(ends(2), [0, 1, 20, 81, 1, 20, 81])])

    def test_each_number_by_itself(self):
        # x is 2, y is 3: x y, x, y and 1 are 6, 2, 3, 1
        worth = (6, 2, 3, 1)
        for upper in range(4):
            for lower in range(4):
                numbers = [0] * 8
                numbers[upper] = 5
                numbers[4 + lower] = 7
                above, below = 5 * worth[upper], 7 * worth[lower]
                shared = math.gcd(above, below)
                end = [1, above // shared, below // shared]
                self.check_node([[2, None], [3, None]], numbers, [(ends(2), [0] + end + end)])


class NodesAtSeveralCorners(LineCase):
    def test_two_with_an_end_of_x_that_may_be(self):
        # y is from 7/2 to 4 without both: 0 lies at x's least alone
        self.check_node([[0], [3, 1]], TIMES, [(ends(2), [0, 1, 0, 1, 0, 4, 1])])
        self.check_node([[0], [3, 1]], [-1, 0, 0, 0, 0, 0, 0, 1], [(ends(2), [0, 0, -4, 1, 1, 0, 1])])

    def test_two_with_an_end_of_y_that_may_be(self):
        self.check_node([[3, 1], [0]], TIMES, [(ends(2), [0, 1, 0, 1, 0, 4, 1])])
        self.check_node([[3, 1], [0]], [-1, 0, 0, 0, 0, 0, 0, 1], [(ends(2), [0, 0, -4, 1, 1, 0, 1])])

    def test_two_with_a_greatest_of_x_or_y_that_may_be(self):
        # (3 - 2 x) y, where x is from 4/3 to 3/2 without 4/3
        self.check_node([[1, 2], [3, 1]], [-2, 0, 3, 0, 0, 0, 0, 1], [(ends(2), [0, 1, 0, 1, 0, 4, 3])])
        self.check_node([[3, 1], [1, 2]], [-2, 3, 0, 0, 0, 0, 0, 1], [(ends(2), [0, 1, 0, 1, 0, 4, 3])])
        self.check_node([[1, 2], [3, 1]], [2, 0, -3, 0, 0, 0, 0, 1], [(ends(2), [0, 0, -4, 3, 1, 0, 1])])
        self.check_node([[3, 1], [1, 2]], [2, -3, 0, 0, 0, 0, 0, 1], [(ends(2), [0, 0, -4, 3, 1, 0, 1])])

    def test_two_with_an_end_of_x_that_may_not_be(self):
        # (1 - x) y, where x is from 0 to 1 without 1, and y from 7/2 to 4 without both, or from 4/3 to 3/2
        self.check_node([[0], [3, 1]], [-1, 0, 1, 0, 0, 0, 0, 1], [(ends(2), [0, 0, 0, 1, 0, 4, 1])])
        self.check_node([[0], [1, 2]], [-1, 0, 1, 0, 0, 0, 0, 1], [(ends(2), [0, 0, 0, 1, 1, 3, 2])])
        self.check_node([[0], [1, 2]], [1, 0, -1, 0, 0, 0, 0, 1], [(ends(2), [0, 1, -3, 2, 0, 0, 1])])

    def test_two_with_an_end_of_y_that_may_not_be(self):
        self.check_node([[3, 1], [0]], [-1, 1, 0, 0, 0, 0, 0, 1], [(ends(2), [0, 0, 0, 1, 0, 4, 1])])
        self.check_node([[1, 2], [0]], [-1, 1, 0, 0, 0, 0, 0, 1], [(ends(2), [0, 0, 0, 1, 1, 3, 2])])
        self.check_node([[1, 2], [0]], [1, -1, 0, 0, 0, 0, 0, 1], [(ends(2), [0, 1, -3, 2, 0, 0, 1])])

    def test_two_with_a_least_that_may_not_be(self):
        # (2 x - 7) y, where x is from 7/2 to 4 without both, and y from 3 to 4 without 4
        self.check_node([[3, 1], [3]], [2, 0, -7, 0, 0, 0, 0, 1], [(ends(2), [0, 0, 0, 1, 0, 4, 1])])
        self.check_node([[3], [3, 1]], [2, -7, 0, 0, 0, 0, 0, 1], [(ends(2), [0, 0, 0, 1, 0, 4, 1])])

    def test_three_with_two_ends_that_may_be(self):
        # x y, where each is from 0 to 1 without 1
        self.check_node([[0], [0]], TIMES, [(ends(2), [0, 1, 0, 1, 0, 1, 1])])

    def test_three_with_one_end_that_may_be(self):
        # x (1 - y), then (1 - x) y
        self.check_node([[0], [0]], [-1, 1, 0, 0, 0, 0, 0, 1], [(ends(2), [0, 1, 0, 1, 0, 1, 1])])
        self.check_node([[0], [0]], [-1, 0, 1, 0, 0, 0, 0, 1], [(ends(2), [0, 1, 0, 1, 0, 1, 1])])

    def test_three_with_no_end_that_may_be(self):
        # (1 - x) (1 - y), then that taken from 0
        self.check_node([[0], [0]], [1, -1, -1, 1, 0, 0, 0, 1], [(ends(2), [0, 0, 0, 1, 1, 1, 1])])
        self.check_node([[0], [0]], [-1, 1, 1, -1, 0, 0, 0, 1], [(ends(2), [0, 1, -1, 1, 0, 0, 1])])

    def test_two_that_lie_across(self):
        # x + y - 2 x y: 0 where both are 0 or both 1, 1 where just one is; then 1 less that
        self.check_node([[0], [0]], [-2, 1, 1, 0, 0, 0, 0, 1], [(ends(2), [0, 1, 0, 1, 0, 1, 1])])
        self.check_node([[0], [0]], [2, -1, -1, 1, 0, 0, 0, 1], [(ends(2), [0, 0, 0, 1, 1, 1, 1])])

    def test_with_a_closed_stream(self):
        # y is 2, then x is 2, then y is 0
        self.check_node([[3], [2, None]], TIMES, [(ends(2), [0, 1, 6, 1, 0, 8, 1])])
        self.check_node([[2, None], [1, 2]], TIMES, [(ends(2), [0, 0, 8, 3, 1, 3, 1])])
        self.check_node([[3, 1], [0, None]], TIMES, [(ends(2), [0, 1, 0, 1, 1, 0, 1])])

    def test_four(self):
        self.check_node([[3, 1], [0, 1]], of_x(0, 3, 2), [(ends(2), [0, 1, 3, 2, 1, 3, 2])])
        self.check_node([[3, 1]], [0, 2, 0, 4, 0, 1, 0, 2], [(ends(1), [0, 1, 2, 1, 1, 2, 1])])
        self.check_node([[3], [4]], [3, -6, 9, 12, -2, 4, -6, -8], [(ends(2), [0, 1, -3, 2, 1, -3, 2])])
        self.check_node([[3, 1], [0, 1]], of_x(0, 0, -2), [(ends(2), [0, 1, 0, 1, 1, 0, 1])])


class LowestTerms(LineCase):
    def test_both_divided_by_what_they_share(self):
        # from 9/6 to 12/6
        self.check_node([[3]], of_x(3, 0, 6), [(ends(1), [0, 1, 3, 2, 0, 2, 1])])
        # 1/2 times 2/3
        self.check_node([[0, 2, None], [0, 1, 2, None]], TIMES, [(ends(2), [0, 1, 1, 3, 1, 1, 3])])

    def test_ends_below_0(self):
        self.check_node([[3]], of_x(-3, 0, 6), [(ends(1), [0, 0, -2, 1, 1, -3, 2])])
        self.check_node([[-3, 2, None]], of_x(4, 4, 8), [(ends(1), [0, 1, -3, 4, 1, -3, 4])])

    def test_ends_at_0(self):
        self.check_node([[0]], of_x(4, 0, 6), [(ends(1), [0, 1, 0, 1, 0, 2, 3])])
        self.check_node([[-1]], of_x(4, 0, 6), [(ends(1), [0, 1, -2, 3, 0, 0, 1])])
        self.check_node([[0, 7, None]], of_x(7, -1, 999), [(ends(1), [0, 1, 0, 1, 1, 0, 1])])

    def test_whole_ends(self):
        self.check_node([[3]], of_x(6, 0, 3), [(ends(1), [0, 1, 6, 1, 0, 8, 1])])

    def test_the_one_below_is_above_0(self):
        self.check_node([[3]], of_x(3, 0, -6), [(ends(1), [0, 0, -2, 1, 1, -3, 2])])
        self.check_node([[3]], of_x(-3, 0, -6), [(ends(1), [0, 1, 3, 2, 0, 2, 1])])
        self.check_node([[-4]], ONE_BY_X, [(ends(1), [0, 0, -1, 3, 1, -1, 4])])

    def test_a_stream_that_is_as_good_as_another(self):
        # [3, 1] goes up to [4]
        self.check_node([[3, 1], [4, None]], LESS, [(ends(2), [0, 0, -1, 2, 0, 0, 1])])


class NothingKnown(LineCase):
    def test_no_term_of_x_or_of_y(self):
        for told in ([[], [3]], [[3], []], [[], []], [[], [3, None]], [[3, None], []]):
            self.check_node(told, SUM, [(ends(2), [-7])])

    def test_no_term_of_what_does_not_count(self):
        self.check_node([[], [3, None]], ONLY_Y, [(ends(2), [-7])])
        self.check_node([[3, None], []], ONLY_X, [(ends(2), [-7])])
        self.check_node([[]], of_x(0, 3, 2), [(ends(1), [-7])])

    def test_a_refusal_changes_nothing(self):
        self.check_node([[], [3]], SUM, [(ends(2), [-7]), (ends(0), [-7]), (sure(2), [0]), ([2, 0, 1], [1]),
                                         (ends(2), [0, 1, 4, 1, 0, 6, 1])])


if __name__ == "__main__":
    unittest.main()
