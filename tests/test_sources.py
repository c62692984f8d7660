"""Point 2: emit, mark and rest, and what a source puts on its channels."""

import unittest

from tests.helper import ask, drained, emit, graph, last, mark, rest, take, turns

MOST = 4294967295
TWO_OUT = graph([0, 0, 0, 0, 0, 0], [1, 2, 1, 3])


class NoSource(unittest.TestCase):
    CALLS = (lambda p: emit(p, 5), lambda p: mark(p, 5), rest)

    def test_place_that_is_not_there(self):
        for call in self.CALLS:
            for p in (0, 4, 9, MOST):
                self.assertEqual(last(call(p)), [-1])

    def test_place_0_where_the_last_is_a_source(self):
        for call in self.CALLS:
            self.assertEqual(last(graph([0, 0] * 3, [1, 2]), call(0)), [-1])

    def test_place_that_a_channel_goes_to(self):
        for call in self.CALLS:
            self.assertEqual(last(call(3)), [-1])
            self.assertEqual(last(graph([0, 0] * 3, [1, 2, 2, 3]), call(2)), [-1])

    def test_place_without_any_channel_is_a_source(self):
        alone = graph([0, 0] * 3, [1, 2])
        self.assertEqual(ask(alone, emit(3, 5), mark(3, 5), rest(3), rest(3)), [[1], [1], [5], [1], [0]])

    def test_told_first(self):
        self.assertEqual(last(emit(3, 1000001)), [-1])
        self.assertEqual(last(mark(0, MOST)), [-1])
        # Place 3's mark is 9, but it is no source.
        below = (mark(1, 9), mark(2, 9), turns(1))
        self.assertEqual(last(*below, emit(3, 8)), [-1])
        self.assertEqual(last(*below, mark(3, 8)), [-1])


class Times(unittest.TestCase):
    def test_around_the_mark(self):
        for call in (emit, mark):
            self.assertEqual(last(mark(1, 10), call(1, 9)), [-2])
            self.assertEqual(last(mark(1, 10), call(1, 0)), [-2])
        self.assertEqual(ask(mark(1, 10), emit(1, 10), emit(1, 11)), [[10], [1], [2]])
        self.assertEqual(ask(mark(1, 10), mark(1, 10), mark(1, 11), mark(1, 10)), [[10], [10], [11], [-2]])

    def test_each_source_has_its_own_mark(self):
        self.assertEqual(ask(mark(1, 10), emit(2, 0), mark(2, 3), emit(2, 2)), [[10], [1], [3], [-2]])

    def test_an_element_is_no_mark(self):
        self.assertEqual(ask(emit(1, 10), emit(1, 3), mark(1, 2)), [[1], [2], [2]])

    def test_greatest_time(self):
        for call in (emit, mark):
            self.assertEqual(last(call(1, 1000001)), [-3])
            self.assertEqual(last(call(1, MOST)), [-3])
        self.assertEqual(last(emit(1, 1000000)), [1])
        self.assertEqual(last(mark(1, 1000000)), [1000000])

    def test_greatest_mark(self):
        top = mark(1, 1000000)
        self.assertEqual(ask(top, emit(1, 999999), emit(1, 1000000), emit(1, 1000001))[1:], [[-2], [1], [-3]])
        self.assertEqual(ask(top, mark(1, 999999), mark(1, 1000000), mark(1, 1000001))[1:], [[-2], [1000000], [-3]])

    def test_mark_0(self):
        self.assertEqual(drained(1, mark(1, 0)), [[2, 0]])

    def test_refused_leaves_all_as_it_was(self):
        calls = [mark(1, 10), rest(1), emit(1, 9), mark(1, 9), emit(1, 1000001), mark(1, 1000001), emit(3, 9)]
        self.assertEqual(ask(*calls, rest(1), emit(1, 10))[2:], [[-2], [-2], [-3], [-3], [-1], [0], [1]])
        self.assertEqual(drained(1, *calls), [[2, 10], [3]])


class Numbers(unittest.TestCase):
    def test_over_all_sources(self):
        self.assertEqual(ask(emit(1, 7), emit(2, 7), emit(1, 3)), [[1], [2], [3]])

    def test_refused_takes_no_number(self):
        self.assertEqual(ask(emit(1, 7), emit(3, 7), emit(1, 1000001), emit(1, 7))[-1], [2])


class Rest(unittest.TestCase):
    def test_twice(self):
        self.assertEqual(ask(rest(1), rest(1), rest(2)), [[1], [0], [1]])
        self.assertEqual(drained(1, rest(1), rest(1)), [[3]])

    def test_wakes_with_an_element(self):
        self.assertEqual(ask(rest(1), emit(1, 5), rest(1)), [[1], [1], [1]])
        self.assertEqual(drained(1, rest(1), emit(1, 5), emit(1, 6)), [[3], [4], [1, 1, 5, 1], [1, 2, 6, 1]])

    def test_wakes_with_a_mark(self):
        self.assertEqual(ask(rest(1), mark(1, 5), rest(1)), [[1], [5], [1]])
        self.assertEqual(drained(1, rest(1), mark(1, 5), mark(1, 6)), [[3], [4], [2, 5], [2, 6]])

    def test_keeps_its_mark(self):
        self.assertEqual(ask(mark(1, 5), rest(1), emit(1, 4), emit(1, 5)), [[5], [1], [-2], [1]])

    def test_only_the_one_that_rests(self):
        self.assertEqual(drained(2, rest(1), emit(1, 5), emit(2, 5)), [[1, 2, 5, 1]])

    def test_source_that_does_not_rest_puts_no_waking(self):
        self.assertEqual(drained(1, emit(1, 5), mark(1, 5)), [[1, 1, 5, 1], [2, 5]])


class OnAllChannels(unittest.TestCase):
    CALLS = (TWO_OUT, emit(1, 3), mark(1, 4), rest(1), emit(1, 4), rest(1), mark(1, 6))
    ITEMS = [[1, 1, 3, 1], [2, 4], [3], [4], [1, 2, 4, 1], [3], [4], [2, 6]]

    def test_in_order_on_each(self):
        self.assertEqual(drained(1, *self.CALLS), self.ITEMS)
        self.assertEqual(drained(2, *self.CALLS), self.ITEMS)

    def test_same_ends_twice(self):
        twice = graph([0, 0, 0, 0], [1, 2, 1, 2])
        self.assertEqual(ask(twice, emit(1, 3), take(1), take(2), take(1)), [[2], [1], [1, 1, 3, 1], [1, 1, 3, 1], [-5]])

    def test_nothing_on_others(self):
        self.assertEqual(drained(2, emit(1, 3), mark(1, 4), rest(1)), [])


if __name__ == "__main__":
    unittest.main()
