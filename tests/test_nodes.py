"""What a node may be: the lower part's sign, one item twice, nodes of nodes, and streams that change behind it."""

import unittest

from lines import BEGIN, BY, LESS, ONE_BY_X, ONLY_X, ONLY_Y, SUM, TIMES, LineCase, close, digits, ends, feed, may
from lines import node, of_x, sure

HALF = of_x(1, 0, 2)
TWICE = of_x(2, 0)


def unknown(item):
    """The four calls where nothing's known of the item."""
    return [(sure(item), [0]), (ends(item), [-7]), (digits(item, 0), [-7]), (may(item, 5, 1), [1])]


class LowerPart(LineCase):
    def test_above_0_at_all_four(self):
        self.check_node([[3], [1]], [0, 0, 0, 1, 1, 1, 1, 1], [(ends(2), [0, 0, 1, 15, 1, 1, 8]), (sure(2), [0, 0])])
        self.check_node([[3]], ONE_BY_X, [(ends(1), [0, 0, 1, 4, 1, 1, 3]), (sure(1), [0, 0, 3])])

    def test_below_0_at_all_four(self):
        self.check_node([[3], [1]], [0, 0, 0, 1, -1, -1, -1, -1], [(ends(2), [0, 1, -1, 8, 0, -1, 15])])
        self.check_node([[3]], [0, 0, 0, -1, 0, -1, 0, 0], [(ends(1), [0, 0, 1, 4, 1, 1, 3]), (sure(1), [0, 0, 3])])
        self.check_node([[-4]], ONE_BY_X, [(ends(1), [0, 0, -1, 3, 1, -1, 4]), (sure(1), [0, -1, 1])])

    def test_of_both_signs(self):
        self.check_node([[0]], [0, 0, 0, 1, 0, 2, 0, -1], unknown(1))
        self.check_node([[0], [0]], [0, 0, 0, 1, 0, 3, -1, -1], unknown(2))

    def test_of_another_sign_at_just_one_of_the_four(self):
        # 4 x y - 1, 4 x (1 - y) - 1, 4 (1 - x) y - 1, 4 (1 - x) (1 - y) - 1
        for numbers in ([4, 0, 0, -1], [-4, 4, 0, -1], [-4, 0, 4, -1], [4, -4, -4, 3]):
            self.check_node([[0], [0]], [0, 0, 0, 1] + numbers, unknown(2))
            self.check_node([[0], [0]], [0, 0, 0, 1] + [-number for number in numbers], unknown(2))

    def test_of_another_sign_at_two_that_lie_across(self):
        self.check_node([[0], [0]], [0, 0, 0, 1, 8, -4, -4, 1], unknown(2))
        self.check_node([[0], [0]], [0, 0, 0, 1, -8, 4, 4, -1], unknown(2))

    def test_0_at_one_that_may_be(self):
        self.check_node([[0]], ONE_BY_X, unknown(1))
        self.check_node([[0]], BY, unknown(1))

    def test_0_at_one_that_may_not_be(self):
        self.check_node([[-1]], ONE_BY_X, unknown(1))
        # x - y is 0 where x is 3 and y is 3, which y may not be; then the other way round
        self.check_node([[3], [2]], [0, 0, 0, 1, 0, 1, -1, 0], unknown(2))
        self.check_node([[3], [2]], [0, 0, 0, 1, 0, -1, 1, 0], unknown(2))
        self.check_node([[2], [3]], [0, 0, 0, 1, 0, 1, -1, 0], unknown(2))
        # 2 x - 7 is 0 where x is 7/2, and x - 4 where x is 4, neither of which it may be
        self.check_node([[3, 1]], [0, 0, 0, 1, 0, 2, 0, -7], unknown(1))
        self.check_node([[3, 1]], [0, 0, 0, 1, 0, 1, 0, -4], unknown(1))

    def test_0_at_just_one_of_the_four(self):
        # 1 - x y, 1 - x (1 - y), 1 - (1 - x) y, 1 - (1 - x) (1 - y)
        for numbers in ([-1, 0, 0, 1], [1, -1, 0, 1], [1, 0, -1, 1], [-1, 1, 1, 0]):
            self.check_node([[0], [0]], [0, 0, 0, 1] + numbers, unknown(2))
            self.check_node([[0], [0]], [0, 0, 0, 1] + [-number for number in numbers], unknown(2))

    def test_a_little_from_0_at_just_one_of_the_four(self):
        # 3 by twice the same and 1 more: 3 at that one, 1 at the three others
        for numbers, least, greatest in (
            ([-2, 0, 0, 3], 1, 0), ([2, -2, 0, 3], 1, 0), ([2, 0, -2, 3], 1, 0), ([-2, 2, 2, 1], 0, 1),
        ):
            told = [(ends(2), [0, least, 1, 1, greatest, 3, 1])]
            self.check_node([[0], [0]], [0, 0, 0, 3] + numbers, told)
            self.check_node([[0], [0]], [0, 0, 0, -3] + [-number for number in numbers], told)

    def test_0_at_all_four(self):
        self.check_node([[3], [1]], [1, 1, 1, 1, 0, 0, 0, 0], unknown(2))
        self.check_node([[3], [0, None]], [0, 0, 0, 1, 1, 0, 0, 0], unknown(2))

    def test_0_of_closed_streams(self):
        self.check_node([[3, None], [3, None]], [0, 0, 0, 1, 0, 1, -1, 0], unknown(2))

    def test_the_upper_part_0_too(self):
        self.check_node([[0]], [0, 1, 0, 0, 0, 1, 0, 0], unknown(1))
        self.check_node([[-1]], [0, 0, 0, 0, 0, 1, 0, 0], unknown(1))


class NoTermKnown(LineCase):
    def test_of_x_or_of_y(self):
        self.check_node([[], [3]], SUM, unknown(2))
        self.check_node([[3], []], SUM, unknown(2))
        self.check_node([[]], SUM, unknown(1))

    def test_of_what_does_not_count(self):
        self.check_node([[], [3, None]], ONLY_Y, unknown(2))
        self.check_node([[3, None], []], ONLY_X, unknown(2))
        self.check_node([[]], of_x(0, 3, 2), unknown(1))


class OneItemTwice(LineCase):
    def test_taken_as_if_they_were_two(self):
        self.check_node([[0]], LESS, [(ends(1), [0, 0, -1, 1, 0, 1, 1]), (sure(1), [0]), (may(1, 1, 2), [1])])
        self.check_node([[2]], BY, [(ends(1), [0, 0, 2, 3, 0, 3, 2]), (sure(1), [0])])
        # (4 x - 2) (4 y - 2): below 0 where one of both is above and one below 1/2
        self.check_node([[0]], [16, -8, -8, 4, 0, 0, 0, 1], [(ends(1), [0, 0, -4, 1, 1, 4, 1])])

    def test_the_same_as_two_streams_alike(self):
        told = [(ends(2), [0, 1, 9, 1, 0, 16, 1]), (sure(2), [0])]
        self.check_node([[3], [3]], TIMES, told)
        self.check_node([[3], []], TIMES, told, x=0, y=0)

    def test_closed(self):
        self.check_node([[3, 7, None]], LESS, [(ends(1), [0, 1, 0, 1, 1, 0, 1]), (sure(1), [1, 0])])
        self.check_node([[3, 7, None]], BY, [(ends(1), [0, 1, 1, 1, 1, 1, 1]), (sure(1), [1, 1])])


class NodesOfNodes(LineCase):
    def test_taken_by_its_sure_terms(self):
        # from 3/2 to 2 without 2, of which 1 is sure: so from 1 to 2 without 2
        self.check([[3]], [
            (node(0, 0, HALF), [1]), (ends(1), [0, 1, 3, 2, 0, 2, 1]), (sure(1), [0, 1]),
            (node(1, 1, ONLY_X), [2]), (ends(2), [0, 1, 1, 1, 0, 2, 1]), (sure(2), [0, 1]),
            (may(1, 5, 4), [0]), (may(2, 5, 4), [1]),
        ])

    def test_taken_by_several_sure_terms(self):
        # from 333/53 to 710/113 without that, of which 6, 3, 1, 1, 7 are sure: so up to [6, 3, 1, 1, 8]
        self.check([[3, 7, 15]], [
            (node(0, 0, TWICE), [1]), (ends(1), [0, 1, 333, 53, 0, 710, 113]), (sure(1), [0, 6, 3, 1, 1, 7]),
            (node(1, 1, ONLY_Y), [2]), (ends(2), [0, 1, 333, 53, 0, 377, 60]), (sure(2), [0, 6, 3, 1, 1, 7]),
        ])

    def test_a_last_sure_term_of_1(self):
        # from 29/8 to 15/4 without both, of which 3, 1 is sure: so from 7/2 to 4 without both
        self.check([[3, 1]], [
            (node(0, 0, of_x(1, 11, 4)), [1]), (ends(1), [0, 0, 29, 8, 0, 15, 4]), (sure(1), [0, 3, 1]),
            (node(1, 0, ONLY_X), [2]), (ends(2), [0, 0, 7, 2, 0, 4, 1]), (sure(2), [0, 3, 1]),
        ])

    def test_no_more_where_that_is_sure(self):
        self.check([[3, 7, None]], [
            (node(0, 0, SUM), [1]), (node(1, 1, SUM), [2]), (sure(1), [1, 6, 3, 2]), (sure(2), [1, 12, 1, 1, 3]),
            (ends(2), [0, 1, 88, 7, 1, 88, 7]),
        ])

    def test_no_more_where_the_inner_one_is_the_same_everywhere(self):
        self.check([[3]], [
            (node(0, 0, of_x(0, 3, 2)), [1]), (node(1, 1, TWICE), [2]), (sure(2), [1, 3]),
            (node(0, 1, SUM), [3]), (ends(3), [0, 1, 9, 2, 0, 11, 2]),
        ])

    def test_a_whole_number_alone_is_no_open_stream(self):
        self.check([[3, None]], [(node(0, 0, ONLY_X), [1]), (node(1, 1, ONLY_X), [2]), (sure(2), [1, 3]),
                                 (ends(2), [0, 1, 3, 1, 1, 3, 1])])

    def test_a_range_but_no_sure_term(self):
        # from 0 to 2 without 2
        self.check([[0]], [
            (node(0, 0, TWICE), [1]), (ends(1), [0, 1, 0, 1, 0, 2, 1]), (sure(1), [0]), (may(1, 5, 1), [0]),
            (node(1, 1, ONLY_X), [2]),
        ] + unknown(2) + [(node(0, 1, ONLY_X), [3])] + unknown(3) + [(node(1, 0, of_x(0, 3, 2)), [4])] + unknown(4))

    def test_the_inner_one_is_not_known(self):
        self.check([[0]], [(node(0, 0, ONE_BY_X), [1]), (node(1, 0, ONLY_Y), [2])] + unknown(2))

    def test_the_lower_part_by_the_inner_ones_sure_terms(self):
        # from 3/2 to 2, so 4 x - 5 is above 0; but of its sure term 1 it's -1 at 1
        self.check([[3]], [
            (node(0, 0, HALF), [1]), (node(1, 1, [0, 0, 0, 1, 0, 4, 0, -5]), [2]),
        ] + unknown(2) + [(node(0, 0, [0, 0, 0, 1, 0, 2, 0, -5]), [3]), (ends(3), [0, 0, 1, 3, 1, 1, 1])])

    def test_a_node_and_a_stream(self):
        self.check([[3], [1, 2]], [
            (node(0, 1, LESS), [2]), (ends(2), [0, 1, 3, 2, 0, 8, 3]), (sure(2), [0]),
            (node(1, 0, SUM), [3]), (ends(3), [0, 0, 13, 3, 0, 11, 2]), (sure(3), [0]),
            (node(0, 1, BY), [4]), (ends(4), [0, 1, 2, 1, 0, 3, 1]), (sure(4), [0, 2]),
            (node(4, 1, LESS), [5]), (ends(5), [0, 1, 1, 2, 0, 5, 3]),
            (node(1, 4, LESS), [6]), (ends(6), [0, 0, -5, 3, 1, -1, 2]),
        ])

    def test_three_deep(self):
        # of 6, 3, 1, 1, 7 then the half is from 333/106 to 377/120 without that, and so on
        self.check([[3, 7, 15]], [
            (node(0, 0, TWICE), [1]), (node(1, 1, HALF), [2]), (ends(2), [0, 1, 333, 106, 0, 377, 120]),
            (sure(2), [0, 3, 7]), (node(2, 2, ONLY_X), [3]), (ends(3), [0, 0, 25, 8, 1, 22, 7]),
        ])


class StreamsThatChange(LineCase):
    def test_fed_after_the_node_was_made(self):
        self.check([[]], [(node(0, 0, TWICE), [1])] + unknown(1) + [
            (feed(0, 3), [1]), (ends(1), [0, 1, 6, 1, 0, 8, 1]), (sure(1), [0]), (digits(1, 0), [-7]),
            (may(1, 5, 1), [0]), (may(1, 7, 1), [1]),
            (feed(0, 7), [2]), (ends(1), [0, 0, 25, 4, 1, 44, 7]), (sure(1), [0, 6, 3]), (digits(1, 0), [0, 6]),
            (may(1, 7, 1), [0]),
        ])

    def test_closed_after_the_node_was_made(self):
        self.check([[3, 7]], [
            (node(0, 0, TWICE), [1]), (sure(1), [0, 6, 3]), (close(0), [0]), (sure(1), [1, 6, 3, 2]),
            (ends(1), [0, 1, 44, 7, 1, 44, 7]), (digits(1, 3), [0, 6285]), (may(1, 44, 7), [1]), (may(1, 6, 1), [0]),
        ])

    def test_through_a_node_of_nodes(self):
        self.check([[]], [(node(0, 0, SUM), [1]), (node(1, 0, SUM), [2])] + unknown(2) + [
            (feed(0, 3), [1])] + unknown(2) + [
            (feed(0, 7), [2]), (sure(1), [0, 6, 3]), (ends(2), [0, 0, 75, 8, 1, 199, 21]),
            (close(0), [0]), (sure(2), [1, 9, 2, 3]),
        ])

    def test_a_refused_feed_or_close_changes_no_node(self):
        told = [(ends(1), [0, 0, 7, 1, 0, 8, 1]), (sure(1), [0, 7])]
        self.check_node([[3, 1]], TWICE, told + [(feed(0, 0), [-1])] + told + [(close(0), [-3])] + told + [
            (feed(1, 1), [-2])] + told + [(close(1), [-2])] + told)

    def test_each_node_has_its_own_streams(self):
        self.check([[3], [5]], [
            (node(0, 0, SUM), [2]), (node(1, 1, SUM), [3]), (feed(1, 2), [2]),
            (ends(2), [0, 1, 6, 1, 0, 8, 1]), (ends(3), [0, 0, 32, 3, 1, 11, 1]),
            (ends(0), [0, 1, 3, 1, 0, 4, 1]), (ends(1), [0, 0, 16, 3, 1, 11, 2]),
        ])

    def test_behind_begin_the_same_number_is_another_item(self):
        self.check([[3]], [
            (node(0, 0, SUM), [1]), (ends(1), [0, 1, 6, 1, 0, 8, 1]), (BEGIN, [0]), (ends(1), [-2]), ([1], [0]),
            (feed(0, 5), [1]), (ends(0), [0, 1, 5, 1, 0, 6, 1]), (node(0, 0, LESS), [1]),
            (ends(1), [0, 0, -1, 1, 0, 1, 1]),
        ])


if __name__ == "__main__":
    unittest.main()
