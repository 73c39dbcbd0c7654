"""digits: the whole part of 10 to the p times the number, where that's sure."""

import unittest

from lines import FAR, LESS, ONE_BY_X, ONLY_X, SUM, TIMES, LineCase, digits, node, of_x

TEN_TO_30 = 1000000000000000000000000000000


class NumbersAlone(LineCase):
    def test_p_at_0_1_and_30(self):
        self.check([[3, 7, None]], [
            (digits(0, 0), [0, 3]), (digits(0, 1), [0, 31]), (digits(0, 2), [0, 314]),
            (digits(0, 30), [0, 3142857142857142857142857142857]),
        ])

    def test_below_0(self):
        self.check([[-3, 2, None]], [(digits(0, 0), [0, -3]), (digits(0, 1), [0, -25]),
                                     (digits(0, 30), [0, -25 * TEN_TO_30 // 10])])
        # -22/7
        self.check_node([[3, 7, None]], of_x(-1, 0), [
            (digits(1, 0), [0, -4]), (digits(1, 1), [0, -32]), (digits(1, 2), [0, -315]),
            (digits(1, 30), [0, -3142857142857142857142857142858]),
        ])

    def test_whole(self):
        for number in (-1000, -1, 0, 1, 1000):
            self.check([[number, None]], [(digits(0, 0), [0, number]), (digits(0, 1), [0, 10 * number]),
                                          (digits(0, 30), [0, TEN_TO_30 * number])])

    def test_a_little_above_and_below_0(self):
        self.check([[0, 1000, None]], [(digits(0, 0), [0, 0]), (digits(0, 2), [0, 0]), (digits(0, 3), [0, 1])])
        self.check_node([[0, 1000, None]], of_x(-1, 0), [
            (digits(1, 0), [0, -1]), (digits(1, 2), [0, -1]), (digits(1, 3), [0, -1]), (digits(1, 4), [0, -10])])

    def test_a_node(self):
        self.check_node([[0, 3, None], [0, 6, None]], SUM, [(digits(2, 0), [0, 0]), (digits(2, 1), [0, 5]),
                                                           (digits(2, 30), [0, 5 * TEN_TO_30 // 10])])

    def test_the_same_everywhere(self):
        self.check_node([[3, 1]], of_x(0, 2, 3), [(digits(1, 0), [0, 0]), (digits(1, 3), [0, 666])])


class NumbersOfWhichMuchIsKnown(LineCase):
    def test_a_stream_with_one_term(self):
        self.check([[3]], [(digits(0, 0), [0, 3]), (digits(0, 1), [-7]), (digits(0, 30), [-7])])
        self.check([[-4]], [(digits(0, 0), [0, -4]), (digits(0, 1), [-7])])
        self.check([[-1]], [(digits(0, 0), [0, -1])])
        self.check([[0]], [(digits(0, 0), [0, 0])])

    def test_as_many_as_are_sure(self):
        # from 688/219, 3.141552.., to 355/113, 3.141592..
        self.check([[3, 7, 15, 1]], [(digits(0, 4), [0, 31415]), (digits(0, 5), [-7])])

    def test_below_0(self):
        # from -8/3 to -5/2
        self.check([[-3, 2]], [(digits(0, 0), [0, -3]), (digits(0, 1), [-7])])
        # from -355/113, -3.141592.., to -688/219, -3.141552..
        self.check_node([[3, 7, 15, 1]], of_x(-1, 0), [
            (digits(1, 0), [0, -4]), (digits(1, 4), [0, -31416]), (digits(1, 5), [-7])])

    def test_30_digits(self):
        # 1 by the number that has only terms of 1000 is near 1/1000
        self.check([[0] + [1000] * 11], [(digits(0, 30), [0, 999999000001999995000013999])])

    def test_the_least_whole_times_10_to_the_p_that_it_may_be(self):
        # from 3/10 to 4/10 without that
        self.check_node([[3]], of_x(1, 0, 10), [(digits(1, 1), [0, 3]), (digits(1, 0), [0, 0]), (digits(1, 2), [-7])])

    def test_the_least_whole_times_10_to_the_p_that_it_may_not_be(self):
        # from 1/10 to 1/9 without 1/10, then from 1/5 to 2/9 without both
        self.check([[0, 9]], [(digits(0, 1), [0, 1]), (digits(0, 2), [-7])])
        self.check([[0, 4, 1]], [(digits(0, 1), [0, 2]), (digits(0, 2), [-7])])


class TheGreatestWholeTimesTenToTheP(LineCase):
    def test_that_it_may_not_be(self):
        # from 2/7 to 3/10 without that
        self.check([[0, 3, 2]], [(digits(0, 1), [0, 2]), (digits(0, 2), [-7])])
        self.check([[3]], [(digits(0, 0), [0, 3])])
        # from 7/2 to 4 without both
        self.check([[3, 1]], [(digits(0, 0), [0, 3]), (digits(0, 1), [-7])])
        # from 31/100 to 32/100 without that
        self.check_node([[31]], of_x(1, 0, 100), [(digits(1, 2), [0, 31]), (digits(1, 1), [0, 3])])

    def test_that_it_may_be(self):
        # from 9/40 to 3/10 without 9/40
        self.check_node([[0, 3]], of_x(9, 0, 10), [(digits(1, 1), [-7]), (digits(1, 0), [0, 0])])
        # from 1/11 to 1/10 without 1/11
        self.check([[0, 10]], [(digits(0, 0), [0, 0]), (digits(0, 1), [-7])])
        # from -4 to -3 without -4
        self.check_node([[3]], of_x(-1, 0), [(digits(1, 0), [-7])])

    def test_at_0(self):
        # from -1 to 0 without 0; without -1
        self.check([[-1]], [(digits(0, 0), [0, -1])])
        self.check_node([[0]], of_x(-1, 0), [(digits(1, 0), [-7])])
        # (1 - x) (1 - y) taken from 0, then that by 10: without 0
        self.check_node([[0], [0]], [-1, 1, 1, -1, 0, 0, 0, 1], [(digits(2, 0), [0, -1]), (digits(2, 1), [-7])])
        self.check_node([[0], [0]], [-1, 1, 1, -1, 0, 0, 0, 10], [(digits(2, 0), [0, -1]), (digits(2, 1), [0, -1])])

    def test_of_a_number_alone(self):
        self.check([[0, 3, 3, None]], [(digits(0, 1), [0, 3]), (digits(0, 0), [0, 0]), (digits(0, 2), [0, 30])])


class Refused(LineCase):
    def test_it_is_not_the_same(self):
        self.check_node([[0]], LESS, [(digits(1, 0), [-7]), (digits(1, 30), [-7])])
        self.check_node([[3], [3]], TIMES, [(digits(2, 0), [-7])])

    def test_nothing_is_known(self):
        self.check([[]], [(digits(0, 0), [-7]), (digits(0, 30), [-7])])
        self.check_node([[0]], ONE_BY_X, [(digits(1, 0), [-7]), (digits(1, 30), [-7])])
        self.check_node([[], [3, None]], SUM, [(digits(2, 0), [-7])])

    def test_p_above_30(self):
        for p in (31, 32, 1000, FAR - 1, FAR):
            self.check([[3, None]], [(digits(0, p), [-1])])
            self.check([[3, None]], [(node(0, 0, ONLY_X), [1]), (digits(1, p), [-1])])


if __name__ == "__main__":
    unittest.main()
