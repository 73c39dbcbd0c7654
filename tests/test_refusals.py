"""Each refusal of each call, that all is as it was after it, and which one is answered where several fit."""

import unittest

from lines import BEGIN, FAR, ONES, STREAM, asked, close, fed, feed, node, whole

COUNTS_TO_30 = list(range(1, 31))


class StreamRefused(unittest.TestCase):
    def test_with_8_items(self):
        calls = [STREAM] * 8 + [STREAM, STREAM]
        self.assertEqual(asked(calls), whole([0, 1, 2, 3, 4, 5, 6, 7, -5, -5]))

    def test_nodes_count_as_items(self):
        calls = [STREAM] + [node(0, 0)] * 7 + [STREAM]
        self.assertEqual(asked(calls), whole([0, 1, 2, 3, 4, 5, 6, 7, -5]))

    def test_all_is_as_it_was(self):
        calls = [STREAM] * 8 + [feed(7, 3), STREAM, feed(7, 4), feed(8, 1), close(7), close(8), node(8, 0)]
        self.assertEqual(asked(calls), whole([0, 1, 2, 3, 4, 5, 6, 7, 1, -5, 2, -2, 0, -2, -2]))


class FeedRefused(unittest.TestCase):
    def test_no_such_item(self):
        self.assertEqual(asked([feed(0, 3), STREAM, feed(1, 3), feed(FAR, 3)]), whole([-2, 0, -2, -2]))

    def test_no_such_item_makes_none(self):
        self.assertEqual(asked([feed(0, 3), STREAM, feed(0, 0)]), whole([-2, 0, 1]))

    def test_a_node(self):
        calls = [STREAM, node(0, 0), feed(1, 3), feed(0, 3), feed(1, 3), node(1, 1)]
        self.assertEqual(asked(calls), whole([0, 1, -2, 1, -2, 2]))

    def test_a_node_of_closed_streams(self):
        calls = [STREAM, feed(0, 3), close(0), node(0, 0), feed(1, 3)]
        self.assertEqual(asked(calls), whole([0, 1, 0, 1, -2]))

    def test_no_more(self):
        calls = [STREAM, feed(0, 3), close(0), feed(0, 4), feed(0, 4)]
        self.assertEqual(asked(calls), whole([0, 1, 0, -4, -4]))

    def test_no_more_leaves_the_others_open(self):
        calls = [STREAM, STREAM, feed(0, 3), close(0), feed(0, 4), feed(1, 4)]
        self.assertEqual(asked(calls), whole([0, 1, 1, 0, -4, 1]))

    def test_a_first_term_out_of_bounds(self):
        for term in (1001, -1001, 1000000, -1000000):
            self.assertEqual(asked([STREAM, feed(0, term)]), whole([0, -1]), term)

    def test_a_later_term_out_of_bounds(self):
        for term in (1001, 0, -1, -1000, -1001, 1000000, -1000000):
            self.assertEqual(asked([STREAM, feed(0, 2), feed(0, term)]), whole([0, 1, -1]), term)
            self.assertEqual(asked([STREAM] + fed(0, [2, 1, term])), whole([0, 1, 2, -1]), term)

    def test_a_refused_first_term_leaves_the_next_one_first(self):
        for term in (1001, -1001):
            calls = [STREAM, feed(0, term), feed(0, -7), feed(0, -7)]
            self.assertEqual(asked(calls), whole([0, -1, 1, -1]), term)

    def test_a_refused_first_term_leaves_nothing_to_close(self):
        self.assertEqual(asked([STREAM, feed(0, 1001), close(0)]), whole([0, -1, -3]))

    def test_a_refused_later_term_leaves_the_last_one_last(self):
        for term in (1001, 0, -1):
            calls = [STREAM] + fed(0, [2, 1, term]) + [close(0), feed(0, 5), close(0)]
            self.assertEqual(asked(calls), whole([0, 1, 2, -1, -3, 3, 0]), term)

    def test_a_31st_term(self):
        calls = [STREAM] + fed(0, [5] * 32)
        self.assertEqual(asked(calls), whole([0] + COUNTS_TO_30 + [-5, -5]))

    def test_a_refused_31st_term_leaves_the_last_one_last(self):
        calls = [STREAM] + fed(0, [5] * 30) + [feed(0, 1), close(0)]
        self.assertEqual(asked(calls), whole([0] + COUNTS_TO_30 + [-5, 0]))
        calls = [STREAM] + fed(0, [5] * 29) + [feed(0, 1), feed(0, 5), close(0)]
        self.assertEqual(asked(calls), whole([0] + COUNTS_TO_30 + [-5, -3]))

    def test_30_terms_of_one_stream_leave_room_in_another(self):
        calls = [STREAM, STREAM] + fed(0, [5] * 30) + [feed(0, 5), feed(1, 5)]
        self.assertEqual(asked(calls), whole([0, 1] + COUNTS_TO_30 + [-5, 1]))


class CloseRefused(unittest.TestCase):
    def test_no_such_item(self):
        self.assertEqual(asked([close(0), STREAM, close(1), close(FAR)]), whole([-2, 0, -2, -2]))

    def test_no_such_item_closes_none(self):
        self.assertEqual(asked([close(0), STREAM, feed(0, 3), close(1), feed(0, 4)]), whole([-2, 0, 1, -2, 2]))

    def test_a_node(self):
        calls = [STREAM, feed(0, 3), node(0, 0), close(1), feed(0, 4), close(0), close(1), node(1, 0)]
        self.assertEqual(asked(calls), whole([0, 1, 1, -2, 2, 0, -2, 2]))

    def test_no_more(self):
        calls = [STREAM, feed(0, 3), close(0), close(0), feed(0, 3), close(0)]
        self.assertEqual(asked(calls), whole([0, 1, 0, -4, -4, -4]))

    def test_no_more_of_a_term_1_alone(self):
        self.assertEqual(asked([STREAM, feed(0, 1), close(0), close(0)]), whole([0, 1, 0, -4]))

    def test_no_term(self):
        self.assertEqual(asked([STREAM, close(0), close(0)]), whole([0, -3, -3]))

    def test_no_term_leaves_it_open(self):
        self.assertEqual(asked([STREAM, close(0), feed(0, 0), close(0)]), whole([0, -3, 1, 0]))

    def test_the_last_one_of_several_is_1(self):
        for terms in ([2, 1], [1, 1], [0, 1], [-5, 1], [0, 3, 1], [7] * 29 + [1]):
            counts = list(range(1, len(terms) + 1))
            self.assertEqual(asked([STREAM] + fed(0, terms) + [close(0)]), whole([0] + counts + [-3]), terms)

    def test_the_last_one_is_1_leaves_it_open(self):
        calls = [STREAM, feed(0, 2), feed(0, 1), close(0), feed(0, 1), close(0), feed(0, 2), close(0)]
        self.assertEqual(asked(calls), whole([0, 1, 2, -3, 3, -3, 4, 0]))


class NodeRefused(unittest.TestCase):
    def test_no_x(self):
        for x in (1, 2, 8, FAR):
            self.assertEqual(asked([STREAM, node(x, 0), STREAM]), whole([0, -2, 1]), x)

    def test_no_y(self):
        for y in (1, 2, 8, FAR):
            self.assertEqual(asked([STREAM, node(0, y), STREAM]), whole([0, -2, 1]), y)

    def test_neither(self):
        self.assertEqual(asked([node(0, 0), STREAM, node(1, 1), node(FAR, FAR), STREAM]), whole([-2, 0, -2, -2, 1]))

    def test_not_eight_numbers(self):
        for count in (0, 1, 2, 3, 4, 5, 6, 7, 9, 10):
            calls = [STREAM, node(0, 0, [1] * count), STREAM, node(0, 1)]
            self.assertEqual(asked(calls), whole([0, -1, 1, 2]), count)

    def test_one_number_out_of_bounds(self):
        for number in (1001, -1001, FAR, -FAR):
            for place in range(8):
                numbers = ONES[:place] + [number] + ONES[place + 1:]
                calls = [STREAM, node(0, 0, numbers), STREAM, node(0, 1)]
                self.assertEqual(asked(calls), whole([0, -1, 1, 2]), numbers)

    def test_all_numbers_out_of_bounds(self):
        self.assertEqual(asked([STREAM, node(0, 0, [FAR] * 10), STREAM]), whole([0, -1, 1]))

    def test_with_8_items(self):
        calls = [STREAM] * 8 + [node(0, 7), node(3, 3)]
        self.assertEqual(asked(calls), whole([0, 1, 2, 3, 4, 5, 6, 7, -5, -5]))

    def test_with_8_items_all_is_as_it_was(self):
        calls = [STREAM] + [node(0, 0)] * 8 + [feed(0, 3), feed(8, 3), feed(7, 3), close(0), STREAM]
        self.assertEqual(asked(calls), whole([0, 1, 2, 3, 4, 5, 6, 7, -5, 1, -2, -2, 0, -5]))

    def test_begin_makes_room(self):
        calls = [STREAM] * 8 + [node(0, 0), BEGIN, STREAM, node(0, 0)]
        self.assertEqual(asked(calls), whole([0, 1, 2, 3, 4, 5, 6, 7, -5, 0, 0, 1]))


class TheOneToldFirst(unittest.TestCase):
    def test_feed_no_item_before_a_term_out_of_bounds(self):
        for term in (1001, -1001, 1000000, -1000000):
            self.assertEqual(asked([STREAM, feed(1, term), feed(FAR, term)]), whole([0, -2, -2]), term)

    def test_feed_no_stream_before_a_term_out_of_bounds(self):
        for term in (1001, -1001, 1000000, -1000000):
            self.assertEqual(asked([STREAM, node(0, 0), feed(1, term)]), whole([0, 1, -2]), term)

    def test_feed_no_more_before_a_term_out_of_bounds(self):
        for term in (1001, -1001, 0, -1, 1000000, -1000000):
            self.assertEqual(asked([STREAM, feed(0, 3), close(0), feed(0, term)]), whole([0, 1, 0, -4]), term)

    def test_feed_no_more_before_30_are_known(self):
        calls = [STREAM] + fed(0, [5] * 30) + [close(0), feed(0, 5)]
        self.assertEqual(asked(calls), whole([0] + COUNTS_TO_30 + [0, -4]))

    def test_feed_a_term_out_of_bounds_before_30_are_known(self):
        for term in (1001, -1001, 0, -1, 1000000, -1000000):
            calls = [STREAM] + fed(0, [5] * 30) + [feed(0, term)]
            self.assertEqual(asked(calls), whole([0] + COUNTS_TO_30 + [-1]), term)

    def test_feed_no_more_before_both(self):
        calls = [STREAM] + fed(0, [5] * 30) + [close(0), feed(0, 0)]
        self.assertEqual(asked(calls), whole([0] + COUNTS_TO_30 + [0, -4]))

    def test_node_no_item_before_not_eight_numbers(self):
        for count in (0, 7, 9, 10):
            calls = [STREAM, node(1, 0, [1] * count), node(0, 1, [1] * count), node(1, 1, [1] * count)]
            self.assertEqual(asked(calls), whole([0, -2, -2, -2]), count)

    def test_node_no_item_before_a_number_out_of_bounds(self):
        for number in (1001, -1001, FAR, -FAR):
            numbers = ONES[:7] + [number]
            self.assertEqual(asked([STREAM, node(1, 0, numbers), node(0, 1, numbers)]), whole([0, -2, -2]), number)

    def test_node_no_item_before_8_items(self):
        calls = [STREAM] * 8 + [node(8, 0), node(0, 8), node(FAR, FAR)]
        self.assertEqual(asked(calls), whole([0, 1, 2, 3, 4, 5, 6, 7, -2, -2, -2]))

    def test_node_not_eight_numbers_before_8_items(self):
        calls = [STREAM] * 8 + [node(0, 0, [1] * count) for count in (0, 7, 9, 10)]
        self.assertEqual(asked(calls), whole([0, 1, 2, 3, 4, 5, 6, 7, -1, -1, -1, -1]))

    def test_node_a_number_out_of_bounds_before_8_items(self):
        calls = [STREAM] * 8 + [node(0, 0, [number] + ONES[1:]) for number in (1001, -1001, FAR, -FAR)]
        self.assertEqual(asked(calls), whole([0, 1, 2, 3, 4, 5, 6, 7, -1, -1, -1, -1]))

    def test_node_no_item_before_both(self):
        calls = [STREAM] * 8 + [node(8, 0, []), node(0, 8, [1001] * 8)]
        self.assertEqual(asked(calls), whole([0, 1, 2, 3, 4, 5, 6, 7, -2, -2]))


if __name__ == "__main__":
    unittest.main()
