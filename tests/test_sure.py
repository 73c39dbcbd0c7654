"""sure: of streams and of nodes."""

import unittest

from lines import ONE_BY_X, ONLY_X, ONLY_Y, SUM, TIMES, LineCase, of_x, sure


class OfStreams(LineCase):
    def test_no_term(self):
        self.check([[]], [(sure(0), [0])])

    def test_terms(self):
        for terms in ([3], [0], [-1000], [1000], [3, 7], [3, 7, 15, 1], [0, 1], [-2, 1, 1], [9] * 30):
            self.check([terms], [(sure(0), [0] + terms)])

    def test_closed(self):
        for terms in ([3], [0], [1], [-1000], [3, 7], [3, 7, 15, 2], [0, 2], [9] * 30):
            self.check([terms + [None]], [(sure(0), [1] + terms)])

    def test_of_each_stream_its_own(self):
        self.check([[3, 7], [], [2, None]], [(sure(1), [0]), (sure(2), [1, 2]), (sure(0), [0, 3, 7])])

    def test_again_after_more_has_come(self):
        self.check([[3]], [(sure(0), [0, 3]), ([2, 0, 7], [2]), (sure(0), [0, 3, 7]), ([3, 0], [0]),
                           (sure(0), [1, 3, 7]), (sure(0), [1, 3, 7])])

    def test_asking_changes_nothing(self):
        self.check([[3]], [(sure(0), [0, 3]), (sure(0), [0, 3]), ([2, 0, 7], [2]), ([2, 0, 7], [3])])


class NothingKnown(LineCase):
    def test_no_term_of_x_or_of_y(self):
        for told in ([[], [3]], [[3], []], [[], []], [[], [3, None]]):
            self.check_node(told, SUM, [(sure(2), [0])])

    def test_no_term_of_what_does_not_count(self):
        self.check_node([[], [3, None]], ONLY_Y, [(sure(2), [0])])
        self.check_node([[3, None], []], ONLY_X, [(sure(2), [0])])
        self.check_node([[]], of_x(0, 3, 2), [(sure(1), [0])])

    def test_lower_part_of_both_signs_or_0(self):
        self.check_node([[0]], [0, 0, 0, 1, 0, 2, 0, -1], [(sure(1), [0])])
        self.check_node([[0]], ONE_BY_X, [(sure(1), [0])])
        self.check_node([[5, None]], [0, 0, 0, 1, 0, 0, 0, 0], [(sure(1), [0])])


class OneNumberAlone(LineCase):
    def test_of_closed_streams(self):
        self.check_node([[3, 7, None], [2, None]], SUM, [(sure(2), [1, 5, 7])])
        self.check_node([[0, 2, None], [0, 2, None]], SUM, [(sure(2), [1, 1])])
        self.check_node([[0, 2, None], [0, 3, None]], SUM, [(sure(2), [1, 0, 1, 5])])

    def test_a_whole_number(self):
        for number in (-3, -1, 0, 1, 2):
            self.check_node([[number, None]], ONLY_X, [(sure(1), [1, number])])

    def test_below_0(self):
        # -22/7 is -4 and 6/7, and 7/6 is 1 and 1/6.
        self.check_node([[3, 7, None]], of_x(-1, 0), [(sure(1), [1, -4, 1, 6])])
        self.check_node([[0, 2, None]], of_x(-1, 0), [(sure(1), [1, -1, 2])])

    def test_the_same_everywhere(self):
        for told in ([[3]], [[3, 1]], [[3], [0]], [[-5, 2], [0, 1]]):
            self.check_node(told, of_x(0, 3, 2), [(sure(len(told)), [1, 1, 2])])
            self.check_node(told, of_x(0, -3, 2), [(sure(len(told)), [1, -2, 2])])
            self.check_node(told, of_x(0, 0, 2), [(sure(len(told)), [1, 0])])

    def test_the_same_everywhere_as_above_and_below_go_together(self):
        self.check_node([[3]], [0, 2, 0, 4, 0, 3, 0, 6], [(sure(1), [1, 0, 1, 2])])
        self.check_node([[3], [4]], [5, -10, 15, 20, 1, -2, 3, 4], [(sure(2), [1, 5])])

    def test_the_same_for_all_that_one_stream_may_be(self):
        self.check_node([[0, None], [3]], TIMES, [(sure(2), [1, 0])])
        self.check_node([[3], [2, None]], [1, -2, 0, 1, 0, 0, 0, 1], [(sure(2), [1, 1])])

    def test_a_term_far_above_1000(self):
        # 1000/1000001 by 1000
        self.check_node([[0, 1000, 1000, None]], of_x(1, 0, 1000), [(sure(1), [1, 0, 1000001])])

    def test_not_in_lowest_terms(self):
        self.check_node([[0, 2, None], [0, 2, None]], TIMES, [(sure(2), [1, 0, 4])])
        self.check_node([[6, None]], of_x(4, 4, 8), [(sure(1), [1, 3, 2])])


class MayBeMany(LineCase):
    def test_no_sure_term(self):
        # from 0 to 2, without 2
        self.check_node([[0]], of_x(2, 0), [(sure(1), [0])])
        # from -1 to 1, without both
        self.check_node([[0]], [0, 1, -1, 0, 0, 0, 0, 1], [(sure(1), [0])])

    def test_one_sure_term(self):
        # from 0 to 1/2, without 1/2
        self.check_node([[0]], of_x(1, 0, 2), [(sure(1), [0, 0])])
        # from -4 to -7/2, without -7/2
        self.check_node([[0]], of_x(1, -8, 2), [(sure(1), [0, -4])])

    def test_several_sure_terms(self):
        for terms in ([3, 7], [3, 7, 15, 1], [0, 1], [-2, 1, 1], [5, 2, 1, 1], [9] * 30):
            self.check_node([terms], ONLY_X, [(sure(1), [0] + terms)])

    def test_several_that_are_not_the_streams_own(self):
        # 2 times what lies from 333/106 to 355/113, without that: from 6.28301.. to 6.28318..
        self.check_node([[3, 7, 15]], of_x(2, 0), [(sure(1), [0, 6, 3, 1, 1, 7])])

    def test_as_many_as_can_be_with_one_more_term_of_the_stream(self):
        self.check_node([[3, 7, 15, 1]], of_x(2, 0), [(sure(1), [0, 6, 3, 1, 1, 7])])
        self.check_node([[3, 7, 15, 1, 292]], of_x(2, 0), [(sure(1), [0, 6, 3, 1, 1, 7, 2, 146])])

    def test_the_other_way_up(self):
        self.check_node([[3, 7]], ONE_BY_X, [(sure(1), [0, 0, 3, 7])])
        self.check_node([[0, 3, 7]], ONE_BY_X, [(sure(1), [0, 3, 7])])


class WholeEnds(LineCase):
    def test_from_whole_to_whole_with_the_least(self):
        self.check_node([[3]], ONLY_X, [(sure(1), [0, 3])])

    def test_from_whole_to_whole_with_neither(self):
        # from 3/2 to 2 without both, times 2
        self.check_node([[1, 1]], of_x(2, 0), [(sure(1), [0, 3])])

    def test_from_whole_to_whole_with_the_greatest(self):
        # from 4/3 to 3/2 without 4/3, times 6, less 5
        self.check_node([[1, 2]], of_x(6, -5), [(sure(1), [0])])

    def test_the_least_is_whole(self):
        # from 3 to 7/2: with 3 and without 7/2, with 7/2 and without 3
        self.check_node([[0]], of_x(1, 6, 2), [(sure(1), [0, 3])])
        self.check_node([[1, 2]], of_x(3, -1), [(sure(1), [0, 3])])

    def test_the_greatest_is_the_next_whole_number(self):
        # from 7/2 to 4: with 7/2 and without 4, without both, with 4 and without 7/2
        self.check_node([[1]], of_x(1, 6, 2), [(sure(1), [0, 3])])
        self.check_node([[1, 1]], of_x(1, 2), [(sure(1), [0, 3, 1])])
        self.check_node([[-1]], of_x(-1, 7, 2), [(sure(1), [0])])

    def test_the_same_below_0(self):
        # from -4 to -3: with -4, with -3, with neither
        self.check_node([[-4]], ONLY_X, [(sure(1), [0, -4])])
        self.check_node([[3]], of_x(-1, 0), [(sure(1), [0])])
        self.check_node([[1, 1]], of_x(-2, 0), [(sure(1), [0, -4])])

    def test_from_below_0_to_0(self):
        self.check_node([[-1]], ONLY_X, [(sure(1), [0, -1])])
        self.check_node([[0]], of_x(-1, 0), [(sure(1), [0])])

    def test_behind_other_terms(self):
        # from 2 and 1/4 without that to 2 and 1/3 with that; the other way round; with neither
        self.check_node([[3]], [0, 2, 0, 1, 0, 1, 0, 0], [(sure(1), [0, 2, 3])])
        self.check_node([[-4]], [0, 2, 0, -1, 0, 1, 0, 0], [(sure(1), [0, 2])])
        self.check_node([[3, 1]], of_x(-1, 31, 12), [(sure(1), [0, 2, 3])])


if __name__ == "__main__":
    unittest.main()
