"""What is handed in and given back, whatever the calls are, and that nothing is changed, kept, printed or read."""

import builtins
import contextlib
import io
import random
import sys
import unittest
from unittest import mock

from surelytold.terms import answers
from lines import BEGIN, FAR, ONES, STREAM, asked, close, counted, digits, ends, fed, feed
from lines import given_with_few_calls_within, line, may, node, split, sure, whole

MIXED = line([
    STREAM, feed(0, 3), node(0, 0), node(0, 1, [1000, -1000, FAR, 0, 1, 2, 3, 4]), feed(0, 0), BEGIN,
    STREAM, STREAM, node(1, 0), feed(0, -4), feed(0, 1), close(0), feed(0, 2), close(0), node(2, 2, ONES), node(5, 0),
    sure(0), node(0, 0, [0, 1, 1, 0, 0, 0, 0, 1]), sure(4), ends(4), digits(4, 1), may(4, -20, 3), sure(2), ends(2),
    digits(3, 0), may(3, 5, 1), feed(1, 7), node(0, 1, [0, 1, 1, 0, 0, 0, 0, 1]), ends(5), sure(5), digits(5, 0),
    may(5, 13, 3), sure(6), ends(FAR), digits(0, 31), may(0, 1, 0),
])
MIXED_ANSWERS = whole([0, 1, 1, -1, -1, 0, 0, 1, 2, 1, 2, -3, 3, 0, 3, -2]) + counted([
    [1, -4, 1, 2], [4], [1, -7, 3], [0, 1, -20, 3, 1, -20, 3], [0, -67], [1], [0], [-7],
    [-7], [1], [1], [5], [0, 1, 11, 3, 0, 14, 3], [0], [-7],
    [1], [-2], [-2], [-1], [-1],
])
# By a call's number: how many numbers it answers where it isn't refused; of sure there may be any, from 1 on.
ANSWERED = (1, 1, 1, 1, 1, None, 7, 2, 1)


class Unchangeable(list):
    """A list that fails when somebody changes it, were it only for a while."""

    def refuse(self, *args, **kwargs):
        raise AssertionError("what is handed in is changed")

    append = extend = insert = remove = pop = clear = sort = reverse = refuse
    __setitem__ = __delitem__ = __iadd__ = __imul__ = refuse


def random_call(source):
    item = source.choice([0, 0, 0, 1, 1, 2, 3, 7, 8, FAR])
    kind = source.choice([1, 1, 2, 2, 2, 2, 2, 3, 4, 4, 5, 6, 7, 8])
    if source.randrange(40) == 0:
        return BEGIN
    if kind == 1:
        return STREAM
    if kind == 2:
        return feed(item, source.choice([1, 1, 2, 3, 1000, 0, -1, -1000, 1001, -1001, 1000000, -1000000]))
    if kind == 3:
        return close(item)
    if kind == 5:
        return sure(item)
    if kind == 6:
        return ends(item)
    if kind == 7:
        return digits(item, source.choice([0, 0, 0, 1, 2, 30, 31, FAR]))
    if kind == 8:
        return may(item, source.choice([-1000000, -1, 0, 1, 3, 1000000]), source.choice([0, 1, 2, 1000, 1000000]))
    numbers = [source.randint(-1000, 1000) for place in range(source.choice([0, 7, 8, 8, 8, 8, 9, 10]))]
    if source.randrange(4) == 0:
        numbers = [source.choice([number, 1001, -1001, FAR, -FAR]) for number in numbers]
    return node(item, source.choice([0, 0, 1, 2, 8, FAR]), numbers)


def random_lines(count, most=60):
    source = random.Random(20)
    return [[random_call(source) for place in range(source.randint(1, most))] for each in range(count)]


class Edges(unittest.TestCase):
    def test_item_numbers_at_their_bound(self):
        calls = [STREAM, feed(FAR, 1), close(FAR), node(FAR, 0), node(0, FAR), node(FAR, FAR), STREAM]
        self.assertEqual(asked(calls), whole([0, -2, -2, -2, -2, -2, 1]))

    def test_item_numbers_at_their_bound_in_an_empty_house(self):
        calls = [feed(FAR, 1), close(FAR), node(FAR, FAR), feed(0, 1), close(0), node(0, 0)]
        self.assertEqual(asked(calls), whole([-2] * 6))

    def test_terms_at_their_bounds(self):
        calls = [STREAM, feed(0, 1000000), feed(0, -1000000), feed(0, 4), feed(0, 1000000), feed(0, -1000000)]
        self.assertEqual(asked(calls), whole([0, -1, -1, 1, -1, -1]))

    def test_60_calls(self):
        calls = [STREAM, STREAM] + fed(0, [4] * 28) + fed(1, [1] * 28) + [close(0), close(1)]
        counts = list(range(1, 29))
        self.assertEqual(asked(calls), whole([0, 1] + counts + counts + [0, -3]))

    def test_60_times_each_short_call(self):
        self.assertEqual(answers([0] * 60), [1, 0] * 60)
        self.assertEqual(answers([1] * 60), whole(list(range(8)) + [-5] * 52))
        self.assertEqual(answers([3, 0] * 60), [1, -2] * 60)

    def test_840_numbers(self):
        calls = line([node(0, FAR, [-FAR] * 10)] * 60)
        self.assertEqual(len(calls), 840)
        self.assertEqual(answers(calls), [1, -2] * 60)

    def test_nearly_840_numbers_of_which_some_are_taken(self):
        calls = [STREAM] + [node(0, 0, [FAR] * 10)] * 51 + [node(0, 0)] * 8
        self.assertEqual(asked(calls), whole([0] + [-1] * 51 + [1, 2, 3, 4, 5, 6, 7, -5]))


class GivenBack(unittest.TestCase):
    def test_many_calls_in_one_list(self):
        self.assertEqual(answers(list(MIXED)), MIXED_ANSWERS)

    def test_a_list_of_whole_numbers(self):
        given = answers(list(MIXED))
        self.assertIs(type(given), list)
        self.assertEqual({type(number) for number in given}, {int})

    def test_one_answer_for_each_call_as_long_as_is_told(self):
        for calls in random_lines(400):
            parts = split(asked(calls))
            self.assertEqual(len(parts), len(calls))
            for call, part in zip(calls, parts):
                if part[0] < 0:
                    self.assertEqual(len(part), 1, calls)
                elif call[0] != 5:
                    self.assertEqual(len(part), ANSWERED[call[0]], calls)

    def test_whole_numbers_whatever_the_calls_are(self):
        for calls in random_lines(400):
            self.assertEqual({type(number) for number in asked(calls)}, {int})

    def test_a_refusal_leaves_all_as_it_was(self):
        for calls in random_lines(200):
            parts = split(asked(calls))
            taken = [call for call, part in zip(calls, parts) if part[0] >= 0]
            if taken:
                self.assertEqual(split(asked(taken)), [part for part in parts if part[0] >= 0], calls)

    def test_a_refusal_is_answered_again_at_once(self):
        for calls in random_lines(200, most=59):
            parts = split(asked(calls))
            for place, part in enumerate(parts):
                if part[0] < 0:
                    again = split(asked(calls[:place + 1] + [calls[place]]))
                    self.assertEqual(again[-1], part, calls)

    def test_behind_begin_all_is_as_in_a_new_line(self):
        lines = random_lines(100, most=29)
        for before, behind in zip(lines, lines[1:]):
            given = split(asked(before + [BEGIN] + behind))
            self.assertEqual(given[len(before):], [[0]] + split(asked(behind)))


class NothingChanged(unittest.TestCase):
    def test_the_list_is_as_it_was(self):
        for calls in [MIXED] + [line(calls) for calls in random_lines(50)]:
            handed = list(calls)
            answers(handed)
            self.assertEqual(handed, calls)

    def test_the_numbers_of_a_node_are_as_they_were(self):
        for numbers in ([1, -2, 3, -4, 5, -6, 7, -8], [9, 8, 7], [1001] * 8, [-FAR] * 10, []):
            handed = line([STREAM, node(0, 0, numbers), node(0, 0, numbers), BEGIN])
            answers(handed)
            self.assertEqual(handed[5:5 + len(numbers)], numbers)
            self.assertEqual(handed, line([STREAM, node(0, 0, numbers), node(0, 0, numbers), BEGIN]))

    def test_not_for_a_while_either(self):
        self.assertEqual(answers(Unchangeable(MIXED)), MIXED_ANSWERS)

    def test_what_is_given_back_is_not_what_was_handed_in(self):
        handed = [0]
        given = answers(handed)
        given.append(5)
        self.assertEqual(handed, [0])


class NothingKept(unittest.TestCase):
    def test_again_with_the_same_list(self):
        handed = list(MIXED)
        self.assertEqual([answers(handed) for time in range(3)], [MIXED_ANSWERS] * 3)

    def test_items_are_gone_the_next_time(self):
        self.assertEqual(answers([1] * 8), whole(list(range(8))))
        self.assertEqual(answers([3, 0]), [1, -2])
        self.assertEqual(answers([1]), [1, 0])

    def test_terms_are_gone_the_next_time(self):
        self.assertEqual(asked([STREAM, feed(0, 3), close(0)]), whole([0, 1, 0]))
        self.assertEqual(asked([STREAM, feed(0, 0), feed(0, 2)]), whole([0, 1, 2]))

    def test_a_changed_answer_does_not_come_back(self):
        for calls in ([0], [1], [3, 0], list(MIXED)):
            first = answers(list(calls))
            kept = list(first)
            first.clear()
            self.assertEqual(answers(list(calls)), kept)

    def test_lines_in_any_order(self):
        lines = [line(calls) for calls in random_lines(60)]
        forth = [answers(calls) for calls in lines]
        back = [answers(calls) for calls in reversed(lines)]
        self.assertEqual(forth, back[::-1])


class NothingElse(unittest.TestCase):
    def test_nothing_is_printed(self):
        out = io.StringIO()
        err = io.StringIO()
        with contextlib.redirect_stdout(out), contextlib.redirect_stderr(err):
            answers(list(MIXED))
        self.assertEqual((out.getvalue(), err.getvalue()), ("", ""))

    def test_nothing_is_read_or_imported(self):
        asks = [mock.patch.object(builtins, name) for name in ("open", "input", "print", "__import__")]
        with contextlib.ExitStack() as stack:
            used = [stack.enter_context(ask) for ask in asks]
            stdin = stack.enter_context(mock.patch.object(sys, "stdin"))
            given = answers(list(MIXED))
        self.assertEqual([ask.called for ask in used], [False] * 4)
        self.assertEqual(stdin.mock_calls, [])
        self.assertEqual(given, MIXED_ANSWERS)

    def test_long_lines_are_gone_through_by_loops(self):
        given = given_with_few_calls_within([node(0, FAR, [-FAR] * 10)] * 60)
        self.assertEqual(given, [1, -2] * 60)


if __name__ == "__main__":
    unittest.main()
