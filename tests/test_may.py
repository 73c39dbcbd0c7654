"""may: whether n / d lies in what the item may be."""

import unittest

from lines import LESS, ONE_BY_X, ONLY_X, SUM, TIMES, LineCase, may, node, of_x


class OfStreams(LineCase):
    def test_one_term(self):
        self.check([[3]], [
            (may(0, 3, 1), [1]), (may(0, 4, 1), [0]), (may(0, 7, 2), [1]), (may(0, 2, 1), [0]), (may(0, 5, 1), [0]),
            (may(0, 29999, 10000), [0]), (may(0, 39999, 10000), [1]),
            (may(0, 30001, 10000), [1]), (may(0, 40001, 10000), [0]), (may(0, -3, 1), [0]), (may(0, 0, 1), [0]),
        ])

    def test_two_terms(self):
        # from 25/8 to 22/7 without 25/8
        self.check([[3, 7]], [(may(0, 25, 8), [0]), (may(0, 22, 7), [1]), (may(0, 157, 50), [1]), (may(0, 3, 1), [0]),
                              (may(0, 4, 1), [0]), (may(0, 314159, 100000), [1])])

    def test_not_in_lowest_terms(self):
        self.check([[3, 7]], [(may(0, 250, 80), [0]), (may(0, 220, 70), [1]), (may(0, 314, 100), [1]),
                              (may(0, 30, 10), [0]), (may(0, 40, 10), [0]), (may(0, 999999, 318181), [0]),
                              (may(0, 22 * 45454, 7 * 45454), [1])])

    def test_a_last_term_of_1(self):
        # from 7/2 to 4 without both
        self.check([[3, 1]], [(may(0, 7, 2), [0]), (may(0, 4, 1), [0]), (may(0, 15, 4), [1])])

    def test_closed(self):
        self.check([[3, 7, None]], [(may(0, 22, 7), [1]), (may(0, 44, 14), [1]), (may(0, 3, 1), [0]),
                                    (may(0, 315, 100), [0]), (may(0, 314, 100), [0]), (may(0, -22, 7), [0])])
        self.check([[0, None]], [(may(0, 0, 1), [1]), (may(0, 0, 1000000), [1]), (may(0, 1, 1000000), [0]),
                                 (may(0, -1, 1000000), [0])])

    def test_below_0_and_0(self):
        # from -1 to 0 without 0; from -8/3 to -5/2 without -8/3; from 0 to 1 without 1
        self.check([[-1]], [(may(0, 0, 1), [0]), (may(0, -1, 1), [1]), (may(0, -1, 2), [1]), (may(0, -3, 2), [0]),
                            (may(0, 1, 2), [0]), (may(0, -1, 1000000), [1])])
        self.check([[-3, 2]], [(may(0, -8, 3), [0]), (may(0, -5, 2), [1]), (may(0, -13, 5), [1]), (may(0, 13, 5), [0]),
                               (may(0, -3, 1), [0]), (may(0, -2, 1), [0]), (may(0, 0, 1), [0])])
        self.check([[0]], [(may(0, 0, 1), [1]), (may(0, 0, 7), [1]), (may(0, 1, 1), [0]), (may(0, -1, 1000000), [0])])

    def test_numbers_at_their_bounds(self):
        self.check([[1000]], [(may(0, 1000000, 1000), [1]), (may(0, 1000000, 999), [0]),
                              (may(0, 1000000, 1000000), [0]), (may(0, -1000000, 1000), [0]),
                              (may(0, 1000000, 1), [0])])
        self.check([[-1000]], [(may(0, -1000000, 1000), [1]), (may(0, -999000, 1000), [0]),
                               (may(0, -999001, 1000), [1]), (may(0, -1000000, 1), [0])])
        self.check([[0, 1000, 999]], [(may(0, 1, 1000), [0]), (may(0, 999, 999001), [1]), (may(0, 1000, 1000000), [0])])

    def test_again_after_more_has_come(self):
        self.check([[]], [(may(0, 5, 1), [1]), ([2, 0, 3], [1]), (may(0, 5, 1), [0]), (may(0, 7, 2), [1]),
                          ([2, 0, 7], [2]), (may(0, 7, 2), [0]), (may(0, 157, 50), [1]), ([3, 0], [0]),
                          (may(0, 157, 50), [0]), (may(0, 22, 7), [1])])


class OfNodes(LineCase):
    def test_at_the_ends(self):
        # from 3/2 to 8/3 without 8/3
        self.check_node([[3], [1, 2]], LESS, [
            (may(2, 3, 2), [1]), (may(2, 6, 4), [1]), (may(2, 8, 3), [0]), (may(2, 16, 6), [0]), (may(2, 2, 1), [1]),
            (may(2, 1, 1), [0]), (may(2, 3, 1), [0]),
        ])
        # from -8/3 to -3/2 without -8/3
        self.check_node([[3], [1, 2]], [0, -1, 1, 0, 0, 0, 0, 1], [
            (may(2, -3, 2), [1]), (may(2, -8, 3), [0]), (may(2, -2, 1), [1]), (may(2, -1, 1), [0]),
            (may(2, -3, 1), [0]), (may(2, 2, 1), [0]),
        ])

    def test_at_ends_that_lie_at_several_corners(self):
        # x y, then (1 - x) (1 - y), where each is from 0 to 1 without 1
        self.check_node([[0], [0]], TIMES, [(may(2, 0, 1), [1]), (may(2, 1, 1), [0])])
        self.check_node([[0], [0]], [1, -1, -1, 1, 0, 0, 0, 1], [(may(2, 0, 1), [0]), (may(2, 1, 1), [1])])

    def test_one_number_alone(self):
        self.check_node([[3, 1]], of_x(0, 3, 2), [(may(1, 3, 2), [1]), (may(1, 9, 6), [1]), (may(1, 1, 1), [0]),
                                                  (may(1, 2, 1), [0]), (may(1, -3, 2), [0])])

    def test_by_the_range_and_not_by_the_sure_terms(self):
        # from 3/2 to 2 without 2, of which 1 is sure; then from 0 to 2 without 2, of which nothing is sure
        self.check_node([[3]], of_x(1, 0, 2), [(may(1, 5, 4), [0]), (may(1, 3, 2), [1]), (may(1, 2, 1), [0])])
        self.check_node([[0]], of_x(2, 0), [(may(1, 3, 1), [0]), (may(1, 1, 1), [1]), (may(1, -1, 1), [0])])


class NothingKnown(LineCase):
    def test_of_a_stream(self):
        self.check([[]], [(may(0, n, d), [1]) for n in (-1000000, -1, 0, 1, 1000000) for d in (1, 7, 1000000)])

    def test_of_a_node(self):
        for told, numbers in (([[], [3]], SUM), ([[3], []], SUM), ([[0], [0]], ONE_BY_X), ([[], []], of_x(0, 3, 2))):
            self.check_node(told, numbers, [(may(2, n, d), [1]) for n in (-1000000, 0, 5) for d in (1, 1000000)])

    def test_of_a_node_of_a_node_with_no_sure_term(self):
        self.check_node([[0]], of_x(2, 0), [(node(1, 1, ONLY_X), [2]), (may(2, 5, 1), [1]), (may(1, 5, 1), [0])])


class Refused(LineCase):
    def test_d_at_0(self):
        for n in (-1000000, -1, 0, 1, 1000000):
            self.check([[3]], [(may(0, n, 0), [-1])])
            self.check([[3, None]], [(may(0, n, 0), [-1])])

    def test_d_at_0_where_nothing_is_known(self):
        self.check([[]], [(may(0, 1, 0), [-1]), (may(0, 0, 0), [-1]), (may(0, 1, 1), [1])])
        self.check_node([[0]], ONE_BY_X, [(may(1, 1, 0), [-1]), (may(1, 0, 0), [-1]), (may(1, 1, 1), [1])])


if __name__ == "__main__":
    unittest.main()
