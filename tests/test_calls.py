"""begin, stream, feed, close, node where nothing is refused: the whole list that is given back."""

import unittest

from surelytold.terms import answers
from lines import BEGIN, STREAM, asked, close, fed, feed, node, whole


class OrdinaryCalls(unittest.TestCase):
    def test_begin(self):
        self.assertEqual(answers([0]), [1, 0])

    def test_stream(self):
        self.assertEqual(answers([1]), [1, 0])

    def test_streams_are_numbered_from_0(self):
        self.assertEqual(answers([1] * 8), [1, 0, 1, 1, 1, 2, 1, 3, 1, 4, 1, 5, 1, 6, 1, 7])

    def test_feed_answers_how_many_terms_are_known(self):
        self.assertEqual(answers([1, 2, 0, 3, 2, 0, 7, 2, 0, 15]), [1, 0, 1, 1, 1, 2, 1, 3])

    def test_each_stream_has_its_own_terms(self):
        calls = [STREAM, STREAM, feed(1, 5), feed(1, 6), feed(0, 7), feed(1, 8), feed(0, 9)]
        self.assertEqual(asked(calls), whole([0, 1, 1, 2, 1, 3, 2]))

    def test_close(self):
        self.assertEqual(answers([1, 2, 0, 3, 3, 0]), [1, 0, 1, 1, 1, 0])

    def test_close_ends_that_stream_alone(self):
        calls = [STREAM, STREAM, feed(0, 3), feed(1, 4), close(0), feed(1, 5), feed(0, 5)]
        self.assertEqual(asked(calls), whole([0, 1, 1, 1, 0, 2, -4]))

    def test_node(self):
        self.assertEqual(answers([1, 1, 4, 0, 1, 8, 1, 2, 3, 4, 5, 6, 7, 8]), [1, 0, 1, 1, 1, 2])

    def test_node_takes_streams_of_which_nothing_is_known(self):
        self.assertEqual(asked([STREAM, node(0, 0), STREAM]), whole([0, 1, 2]))

    def test_node_of_one_item_twice(self):
        self.assertEqual(asked([STREAM, STREAM, feed(1, 2), node(1, 1)]), whole([0, 1, 1, 2]))

    def test_node_of_nodes(self):
        calls = [STREAM, node(0, 0), node(1, 0), node(1, 2), node(3, 3), STREAM]
        self.assertEqual(asked(calls), whole([0, 1, 2, 3, 4, 5]))

    def test_node_names_x_and_y_in_any_order(self):
        self.assertEqual(asked([STREAM, STREAM, node(1, 0), node(0, 1)]), whole([0, 1, 2, 3]))

    def test_numbers_of_a_node_at_their_bounds(self):
        calls = [STREAM, node(0, 0, [1000] * 8), node(0, 0, [-1000] * 8), node(0, 0, [0] * 8)]
        self.assertEqual(asked(calls), whole([0, 1, 2, 3]))

    def test_numbers_of_a_node_are_not_read_as_calls(self):
        calls = [STREAM, node(0, 0, [0, 1, 2, 3, 4, 0, 1, 0]), feed(0, 4), node(1, 0, [4, 0, 0, 8, 1, 1, 1, 1])]
        self.assertEqual(asked(calls), whole([0, 1, 1, 2]))

    def test_numbers_of_a_refused_node_are_not_read_as_calls(self):
        for count in range(11):
            if count != 8:
                calls = [STREAM, node(0, 0, [0] * count), feed(0, 4)]
                self.assertEqual(asked(calls), whole([0, -1, 1]), count)

    def test_items_of_both_sorts_side_by_side(self):
        calls = [STREAM, node(0, 0), STREAM, node(2, 1), feed(2, 3), feed(0, -4), feed(2, 1), close(0), node(3, 2)]
        self.assertEqual(asked(calls), whole([0, 1, 2, 3, 1, 1, 2, 0, 4]))

    def test_a_node_leaves_its_streams_open(self):
        calls = [STREAM, feed(0, 3), node(0, 0), feed(0, 7), close(0)]
        self.assertEqual(asked(calls), whole([0, 1, 1, 2, 0]))

    def test_a_closed_stream_can_be_put_into_a_node(self):
        self.assertEqual(asked([STREAM, feed(0, 3), close(0), node(0, 0)]), whole([0, 1, 0, 1]))


class Terms(unittest.TestCase):
    def test_the_first_term_may_be_0_or_below(self):
        for term in (0, -1, 1000, -1000, 1, 999, -999):
            self.assertEqual(asked([STREAM, feed(0, term)]), whole([0, 1]), term)

    def test_later_terms_are_from_1_to_1000(self):
        calls = [STREAM] + fed(0, [-1000, 1, 1000, 999, 2, 1])
        self.assertEqual(asked(calls), whole([0, 1, 2, 3, 4, 5, 6]))

    def test_30_terms(self):
        calls = [STREAM] + fed(0, [5] * 30)
        self.assertEqual(asked(calls), whole([0] + list(range(1, 31))))

    def test_30_terms_can_be_closed(self):
        calls = [STREAM] + fed(0, [5] * 30) + [close(0)]
        self.assertEqual(asked(calls), whole([0] + list(range(1, 31)) + [0]))

    def test_one_term_alone_can_be_closed_whatever_it_is(self):
        for term in (1, 0, -1, 2, 1000, -1000):
            self.assertEqual(asked([STREAM, feed(0, term), close(0)]), whole([0, 1, 0]), term)

    def test_terms_with_a_1_before_the_last_one_can_be_closed(self):
        for terms in ([1, 2], [0, 1, 2], [1, 1, 1, 3]):
            counts = list(range(1, len(terms) + 1))
            self.assertEqual(asked([STREAM] + fed(0, terms) + [close(0)]), whole([0] + counts + [0]), terms)


class BeginAgain(unittest.TestCase):
    def test_items_are_numbered_from_0_again(self):
        self.assertEqual(asked([STREAM, STREAM, BEGIN, STREAM]), whole([0, 1, 0, 0]))

    def test_the_items_from_before_are_gone(self):
        calls = [STREAM, STREAM, feed(0, 3), BEGIN, feed(0, 3), close(0), node(0, 0), node(1, 1)]
        self.assertEqual(asked(calls), whole([0, 1, 1, 0, -2, -2, -2, -2]))

    def test_a_stream_is_new_after_it(self):
        calls = [STREAM, feed(0, 3), feed(0, 4), close(0), BEGIN, STREAM, feed(0, 0), close(0)]
        self.assertEqual(asked(calls), whole([0, 1, 2, 0, 0, 0, 1, 0]))

    def test_a_number_of_a_node_may_be_a_stream_after_it(self):
        calls = [STREAM, node(0, 0), BEGIN, STREAM, STREAM, feed(1, 3)]
        self.assertEqual(asked(calls), whole([0, 1, 0, 0, 1, 1]))

    def test_there_is_room_for_8_again(self):
        calls = [STREAM] * 9 + [BEGIN] + [STREAM] * 9
        self.assertEqual(asked(calls), whole([0, 1, 2, 3, 4, 5, 6, 7, -5, 0, 0, 1, 2, 3, 4, 5, 6, 7, -5]))

    def test_begin_at_the_beginning_and_twice(self):
        self.assertEqual(asked([BEGIN, BEGIN, STREAM, BEGIN, BEGIN, STREAM]), whole([0, 0, 0, 0, 0, 0]))


if __name__ == "__main__":
    unittest.main()
