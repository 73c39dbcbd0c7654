"""Each refusal of each call, that all is as it was after it, and which one is answered where several fit."""

import unittest

from lines import BEGIN, FAR, ONES, STREAM, SUM, LineCase, asked, close, digits, ends, fed, feed, may, node
from lines import sure, whole

COUNTS_TO_30 = list(range(1, 31))


class StreamRefused(unittest.TestCase):
    def test_with_8_items(self):
        calls = [STREAM] * 8 + [STREAM, STREAM]
        self.assertEqual(asked(calls), whole([0, 1, 2, 3, 4, 5, 6, 7, -5, -5]))

    def test_nodes_count_as_items(self):
        calls = [STREAM] + [node(0, 0)] * 7 + [STREAM]
        self.assertEqual(asked(calls), whole([0, 1, 2, 3, 4, 5, 6, 7, -5]))

    def test_all_is_as_it_was(self):
        calls = [STREAM] * 8 + [feed(7, 3), STREAM, feed(7, 4), feed(8, 1), close(7), close(8), node(8, 0)]
        self.assertEqual(asked(calls), whole([0, 1, 2, 3, 4, 5, 6, 7, 1, -5, 2, -2, 0, -2, -2]))


class FeedRefused(unittest.TestCase):
    def test_no_such_item(self):
        self.assertEqual(asked([feed(0, 3), STREAM, feed(1, 3), feed(FAR, 3)]), whole([-2, 0, -2, -2]))

    def test_no_such_item_makes_none(self):
        self.assertEqual(asked([feed(0, 3), STREAM, feed(0, 0)]), whole([-2, 0, 1]))

    def test_a_node(self):
        calls = [STREAM, node(0, 0), feed(1, 3), feed(0, 3), feed(1, 3), node(1, 1)]
        self.assertEqual(asked(calls), whole([0, 1, -2, 1, -2, 2]))

    def test_a_node_of_closed_streams(self):
        calls = [STREAM, feed(0, 3), close(0), node(0, 0), feed(1, 3)]
        self.assertEqual(asked(calls), whole([0, 1, 0, 1, -2]))

    def test_no_more(self):
        calls = [STREAM, feed(0, 3), close(0), feed(0, 4), feed(0, 4)]
        self.assertEqual(asked(calls), whole([0, 1, 0, -4, -4]))

    def test_no_more_leaves_the_others_open(self):
        calls = [STREAM, STREAM, feed(0, 3), close(0), feed(0, 4), feed(1, 4)]
        self.assertEqual(asked(calls), whole([0, 1, 1, 0, -4, 1]))

    def test_a_first_term_out_of_bounds(self):
        for term in (1001, -1001, 1000000, -1000000):
            self.assertEqual(asked([STREAM, feed(0, term)]), whole([0, -1]), term)

    def test_a_later_term_out_of_bounds(self):
        for term in (1001, 0, -1, -1000, -1001, 1000000, -1000000):
            self.assertEqual(asked([STREAM, feed(0, 2), feed(0, term)]), whole([0, 1, -1]), term)
            self.assertEqual(asked([STREAM] + fed(0, [2, 1, term])), whole([0, 1, 2, -1]), term)

    def test_a_refused_first_term_leaves_the_next_one_first(self):
        for term in (1001, -1001):
            calls = [STREAM, feed(0, term), feed(0, -7), feed(0, -7)]
            self.assertEqual(asked(calls), whole([0, -1, 1, -1]), term)

    def test_a_refused_first_term_leaves_nothing_to_close(self):
        self.assertEqual(asked([STREAM, feed(0, 1001), close(0)]), whole([0, -1, -3]))

    def test_a_refused_later_term_leaves_the_last_one_last(self):
        for term in (1001, 0, -1):
            calls = [STREAM] + fed(0, [2, 1, term]) + [close(0), feed(0, 5), close(0)]
            self.assertEqual(asked(calls), whole([0, 1, 2, -1, -3, 3, 0]), term)

    def test_a_31st_term(self):
        calls = [STREAM] + fed(0, [5] * 32)
        self.assertEqual(asked(calls), whole([0] + COUNTS_TO_30 + [-5, -5]))

    def test_a_refused_31st_term_leaves_the_last_one_last(self):
        calls = [STREAM] + fed(0, [5] * 30) + [feed(0, 1), close(0)]
        self.assertEqual(asked(calls), whole([0] + COUNTS_TO_30 + [-5, 0]))
        calls = [STREAM] + fed(0, [5] * 29) + [feed(0, 1), feed(0, 5), close(0)]
        self.assertEqual(asked(calls), whole([0] + COUNTS_TO_30 + [-5, -3]))

    def test_30_terms_of_one_stream_leave_room_in_another(self):
        calls = [STREAM, STREAM] + fed(0, [5] * 30) + [feed(0, 5), feed(1, 5)]
        self.assertEqual(asked(calls), whole([0, 1] + COUNTS_TO_30 + [-5, 1]))


class CloseRefused(unittest.TestCase):
    def test_no_such_item(self):
        self.assertEqual(asked([close(0), STREAM, close(1), close(FAR)]), whole([-2, 0, -2, -2]))

    def test_no_such_item_closes_none(self):
        self.assertEqual(asked([close(0), STREAM, feed(0, 3), close(1), feed(0, 4)]), whole([-2, 0, 1, -2, 2]))

    def test_a_node(self):
        calls = [STREAM, feed(0, 3), node(0, 0), close(1), feed(0, 4), close(0), close(1), node(1, 0)]
        self.assertEqual(asked(calls), whole([0, 1, 1, -2, 2, 0, -2, 2]))

    def test_no_more(self):
        calls = [STREAM, feed(0, 3), close(0), close(0), feed(0, 3), close(0)]
        self.assertEqual(asked(calls), whole([0, 1, 0, -4, -4, -4]))

    def test_no_more_of_a_term_1_alone(self):
        self.assertEqual(asked([STREAM, feed(0, 1), close(0), close(0)]), whole([0, 1, 0, -4]))

    def test_no_term(self):
        self.assertEqual(asked([STREAM, close(0), close(0)]), whole([0, -3, -3]))

    def test_no_term_leaves_it_open(self):
        self.assertEqual(asked([STREAM, close(0), feed(0, 0), close(0)]), whole([0, -3, 1, 0]))

    def test_the_last_one_of_several_is_1(self):
        for terms in ([2, 1], [1, 1], [0, 1], [-5, 1], [0, 3, 1], [7] * 29 + [1]):
            counts = list(range(1, len(terms) + 1))
            self.assertEqual(asked([STREAM] + fed(0, terms) + [close(0)]), whole([0] + counts + [-3]), terms)

    def test_the_last_one_is_1_leaves_it_open(self):
        calls = [STREAM, feed(0, 2), feed(0, 1), close(0), feed(0, 1), close(0), feed(0, 2), close(0)]
        self.assertEqual(asked(calls), whole([0, 1, 2, -3, 3, -3, 4, 0]))


class NodeRefused(unittest.TestCase):
    def test_no_x(self):
        for x in (1, 2, 8, FAR):
            self.assertEqual(asked([STREAM, node(x, 0), STREAM]), whole([0, -2, 1]), x)

    def test_no_y(self):
        for y in (1, 2, 8, FAR):
            self.assertEqual(asked([STREAM, node(0, y), STREAM]), whole([0, -2, 1]), y)

    def test_neither(self):
        self.assertEqual(asked([node(0, 0), STREAM, node(1, 1), node(FAR, FAR), STREAM]), whole([-2, 0, -2, -2, 1]))

    def test_not_eight_numbers(self):
        for count in (0, 1, 2, 3, 4, 5, 6, 7, 9, 10):
            calls = [STREAM, node(0, 0, [1] * count), STREAM, node(0, 1)]
            self.assertEqual(asked(calls), whole([0, -1, 1, 2]), count)

    def test_one_number_out_of_bounds(self):
        for number in (1001, -1001, FAR, -FAR):
            for place in range(8):
                numbers = ONES[:place] + [number] + ONES[place + 1:]
                calls = [STREAM, node(0, 0, numbers), STREAM, node(0, 1)]
                self.assertEqual(asked(calls), whole([0, -1, 1, 2]), numbers)

    def test_all_numbers_out_of_bounds(self):
        self.assertEqual(asked([STREAM, node(0, 0, [FAR] * 10), STREAM]), whole([0, -1, 1]))

    def test_with_8_items(self):
        calls = [STREAM] * 8 + [node(0, 7), node(3, 3)]
        self.assertEqual(asked(calls), whole([0, 1, 2, 3, 4, 5, 6, 7, -5, -5]))

    def test_with_8_items_all_is_as_it_was(self):
        calls = [STREAM] + [node(0, 0)] * 8 + [feed(0, 3), feed(8, 3), feed(7, 3), close(0), STREAM]
        self.assertEqual(asked(calls), whole([0, 1, 2, 3, 4, 5, 6, 7, -5, 1, -2, -2, 0, -5]))

    def test_begin_makes_room(self):
        calls = [STREAM] * 8 + [node(0, 0), BEGIN, STREAM, node(0, 0)]
        self.assertEqual(asked(calls), whole([0, 1, 2, 3, 4, 5, 6, 7, -5, 0, 0, 1]))


class TellingRefused(LineCase):
    """sure, range, digits, may."""

    def telling(self, item):
        return [sure(item), ends(item), digits(item, 0), digits(item, 30), may(item, 1, 1), may(item, 0, 7)]

    def test_no_such_item(self):
        for item in (1, 2, 7, 8, FAR):
            self.check([[3, None]], [(call, [-2]) for call in self.telling(item)])

    def test_no_item_at_all(self):
        for item in (0, 1, 8, FAR):
            self.assertEqual(asked(self.telling(item)), whole([-2] * 6), item)

    def test_no_such_item_behind_8(self):
        for item in (8, FAR):
            self.check([[3]] * 8, [(call, [-2]) for call in self.telling(item)])

    def test_no_item_after_begin(self):
        self.check([[3]], [(BEGIN, [0])] + [(call, [-2]) for call in self.telling(0)])

    def test_range_nothing_known(self):
        self.check([[]], [(ends(0), [-7]), (node(0, 0), [1]), (ends(1), [-7])])

    def test_digits_p_above_30(self):
        refused = [(digits(0, p), [-1]) for p in (31, 32, 100, FAR)]
        self.check([[3, None]], refused + [(digits(0, 30), [0, 3 * 10 ** 30])])

    def test_digits_nothing_known_or_not_the_same(self):
        self.check([[], [3]], [(digits(0, 0), [-7]), (digits(1, 1), [-7]), (digits(1, 0), [0, 3])])

    def test_may_d_at_0(self):
        self.check([[3]], [(may(0, 3, 0), [-1]), (may(0, 0, 0), [-1]), (may(0, -1000000, 0), [-1])])

    def test_all_is_as_it_was(self):
        refused = [(ends(0), [-7]), (digits(0, 0), [-7]), (digits(0, 31), [-1]), (may(0, 1, 0), [-1]), (sure(3), [-2]),
                   (ends(3), [-2]), (digits(3, 0), [-2]), (may(3, 1, 1), [-2])]
        told = [(sure(0), [0]), (sure(1), [0, 3, 7]), (ends(1), [0, 0, 25, 8, 1, 22, 7]), (sure(2), [0])]
        self.check([[], [3, 7]], [(node(0, 1, SUM), [2])] + told + refused + told + [
            (feed(1, 15), [3]), (feed(0, -1), [1]), (ends(2), [0, 1, 227, 106, 0, 355, 113]), (STREAM, [3])])


class TheOneToldFirst(LineCase):
    def test_digits_no_item_before_p_above_30(self):
        self.assertEqual(asked([digits(0, 31), digits(FAR, FAR)]), whole([-2, -2]))
        self.check([[3, None]], [(digits(item, p), [-2]) for item in (1, 8, FAR) for p in (31, FAR)])

    def test_digits_p_above_30_before_nothing_known(self):
        self.check([[]], [(digits(0, p), [-1]) for p in (31, FAR)])
        self.check([[]], [(node(0, 0), [1])] + [(digits(1, p), [-1]) for p in (31, FAR)])

    def test_digits_p_above_30_before_not_the_same(self):
        self.check([[3]], [(digits(0, p), [-1]) for p in (31, FAR)] + [(digits(0, 30), [-7])])

    def test_may_no_item_before_d_at_0(self):
        self.assertEqual(asked([may(0, 1, 0), may(FAR, 0, 0)]), whole([-2, -2]))
        self.check([[3, None]], [(may(item, n, 0), [-2]) for item in (1, 8, FAR) for n in (-1, 0, 3)])

    def test_may_d_at_0_where_nothing_is_known(self):
        self.check([[]], [(may(0, 1, 0), [-1]), (node(0, 0), [1]), (may(1, 1, 0), [-1])])

    def test_feed_no_item_before_a_term_out_of_bounds(self):
        for term in (1001, -1001, 1000000, -1000000):
            self.assertEqual(asked([STREAM, feed(1, term), feed(FAR, term)]), whole([0, -2, -2]), term)

    def test_feed_no_stream_before_a_term_out_of_bounds(self):
        for term in (1001, -1001, 1000000, -1000000):
            self.assertEqual(asked([STREAM, node(0, 0), feed(1, term)]), whole([0, 1, -2]), term)

    def test_feed_no_more_before_a_term_out_of_bounds(self):
        for term in (1001, -1001, 0, -1, 1000000, -1000000):
            self.assertEqual(asked([STREAM, feed(0, 3), close(0), feed(0, term)]), whole([0, 1, 0, -4]), term)

    def test_feed_no_more_before_30_are_known(self):
        calls = [STREAM] + fed(0, [5] * 30) + [close(0), feed(0, 5)]
        self.assertEqual(asked(calls), whole([0] + COUNTS_TO_30 + [0, -4]))

    def test_feed_a_term_out_of_bounds_before_30_are_known(self):
        for term in (1001, -1001, 0, -1, 1000000, -1000000):
            calls = [STREAM] + fed(0, [5] * 30) + [feed(0, term)]
            self.assertEqual(asked(calls), whole([0] + COUNTS_TO_30 + [-1]), term)

    def test_feed_no_more_before_both(self):
        calls = [STREAM] + fed(0, [5] * 30) + [close(0), feed(0, 0)]
        self.assertEqual(asked(calls), whole([0] + COUNTS_TO_30 + [0, -4]))

    def test_node_no_item_before_not_eight_numbers(self):
        for count in (0, 7, 9, 10):
            calls = [STREAM, node(1, 0, [1] * count), node(0, 1, [1] * count), node(1, 1, [1] * count)]
            self.assertEqual(asked(calls), whole([0, -2, -2, -2]), count)

    def test_node_no_item_before_a_number_out_of_bounds(self):
        for number in (1001, -1001, FAR, -FAR):
            numbers = ONES[:7] + [number]
            self.assertEqual(asked([STREAM, node(1, 0, numbers), node(0, 1, numbers)]), whole([0, -2, -2]), number)

    def test_node_no_item_before_8_items(self):
        calls = [STREAM] * 8 + [node(8, 0), node(0, 8), node(FAR, FAR)]
        self.assertEqual(asked(calls), whole([0, 1, 2, 3, 4, 5, 6, 7, -2, -2, -2]))

    def test_node_not_eight_numbers_before_8_items(self):
        calls = [STREAM] * 8 + [node(0, 0, [1] * count) for count in (0, 7, 9, 10)]
        self.assertEqual(asked(calls), whole([0, 1, 2, 3, 4, 5, 6, 7, -1, -1, -1, -1]))

    def test_node_a_number_out_of_bounds_before_8_items(self):
        calls = [STREAM] * 8 + [node(0, 0, [number] + ONES[1:]) for number in (1001, -1001, FAR, -FAR)]
        self.assertEqual(asked(calls), whole([0, 1, 2, 3, 4, 5, 6, 7, -1, -1, -1, -1]))

    def test_node_no_item_before_both(self):
        calls = [STREAM] * 8 + [node(8, 0, []), node(0, 8, [1001] * 8)]
        self.assertEqual(asked(calls), whole([0, 1, 2, 3, 4, 5, 6, 7, -2, -2]))


if __name__ == "__main__":
    unittest.main()
