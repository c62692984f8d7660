"""Point 1: graph."""

import unittest

from tests.helper import ask, drained, emit, graph, held, last, mark, rest, take, tape, turns

MOST = 4294967295


class Taken(unittest.TestCase):
    def test_answers_how_many_channels(self):
        self.assertEqual(last(graph([0, 0, 0, 0], [1, 2])), [1])
        self.assertEqual(last(graph([0, 0, 1, 5, 2, 0], [1, 2, 2, 3, 1, 3])), [3])

    def test_no_channels(self):
        self.assertEqual(last(graph([0, 0], [])), [0])
        self.assertEqual(last(graph([0, 0] * 8, [])), [0])

    def test_most_places_and_channels(self):
        self.assertEqual(last(graph([0, 0] * 8, [7, 8] * 16)), [16])
        self.assertEqual(last(graph([0, 0] * 8, [1, 8] * 15)), [15])

    def test_same_ends_twice(self):
        self.assertEqual(last(graph([0, 0, 0, 0], [1, 2, 1, 2])), [2])

    def test_greatest_lift_and_least(self):
        self.assertEqual(last(graph([0, 0, 1, 1000], [1, 2])), [1])
        self.assertEqual(last(graph([0, 0, 1, 0], [1, 2])), [1])

    def test_graph_at_the_beginning(self):
        self.assertEqual(
            ask(emit(1, 4), emit(2, 5), emit(3, 6), emit(4, 6), take(1), take(2), take(3)),
            [[1], [2], [-1], [-1], [1, 1, 4, 1], [1, 2, 5, 1], [-1]],
        )

    def test_place_3_at_the_beginning_has_both_channels(self):
        # Channel 2 has said nothing, so the mark of channel 1 doesn't count; then both have.
        calls = [mark(1, 10), mark(2, 7), emit(1, 10), emit(2, 7), take(1), take(2), take(1), take(2)]
        self.assertEqual(ask(*calls)[4:], [[2, 10], [2, 7], [1, 1, 10, 1], [1, 2, 7, 1]])

    def test_place_3_at_the_beginning_passes_on(self):
        self.assertEqual(ask(emit(1, 5), emit(2, 3), turns(1), tape(3), held(3))[3:], [[2, 1, 5, 2, 3], [0]])


class RefusedPlaces(unittest.TestCase):
    def refused(self, places, channels=()):
        self.assertEqual(last(graph(places, list(channels))), [-1])

    def test_odd_count(self):
        for size in (1, 3, 15, 17, 19):
            self.refused([0] * size)

    def test_no_place(self):
        self.refused([])

    def test_nine_places(self):
        self.refused([0, 0] * 9)
        self.refused([0, 0] * 10)

    def test_sort_above_2(self):
        self.refused([0, 0, 3, 0], [1, 2])
        self.refused([3, 0])
        self.refused([MOST, 0])

    def test_lift_above_1000(self):
        self.refused([0, 0, 1, 1001], [1, 2])
        self.refused([0, 0, 1, MOST], [1, 2])

    def test_lift_where_the_sort_is_not_1(self):
        self.refused([0, 1])
        self.refused([0, 0, 2, 1], [1, 2])
        self.refused([0, 0, 0, 1000], [1, 2])

    def test_last_place_is_looked_at_too(self):
        self.refused([0, 0] * 7 + [0, 1])
        self.refused([0, 0] * 7 + [3, 0])


class RefusedChannels(unittest.TestCase):
    def refused(self, channels, places=(0, 0, 0, 0, 0, 0)):
        self.assertEqual(last(graph(list(places), channels)), [-2])

    def test_odd_count(self):
        self.refused([1])
        self.refused([1, 2, 1])
        self.refused([1, 2] * 15 + [1])

    def test_seventeen(self):
        self.refused([1, 2] * 17)
        self.refused([1, 2] * 16 + [1])
        self.refused([1, 2] * 20)

    def test_ends_that_are_no_places(self):
        self.refused([0, 1])
        self.refused([3, 4])
        self.refused([4, 5])
        self.refused([1, MOST])
        self.refused([MOST, 1])
        self.refused([0, 0])

    def test_ends_equal_or_the_wrong_way_round(self):
        self.refused([1, 1])
        self.refused([3, 3])
        self.refused([2, 1])
        self.refused([3, 1])

    def test_last_channel_is_looked_at_too(self):
        self.refused([1, 2] * 15 + [2, 2])

    def test_one_place_has_room_for_none(self):
        self.refused([1, 2], [0, 0])


class RefusedSources(unittest.TestCase):
    def test_source_of_another_sort(self):
        self.assertEqual(last(graph([1, 0], [])), [-3])
        self.assertEqual(last(graph([2, 0], [])), [-3])
        self.assertEqual(last(graph([1, 7, 0, 0], [1, 2])), [-3])
        self.assertEqual(last(graph([2, 0, 0, 0], [1, 2])), [-3])

    def test_last_place_without_channel_to_it(self):
        self.assertEqual(last(graph([0, 0, 0, 0, 1, 1], [1, 2])), [-3])

    def test_place_in_the_middle_with_only_leaving_channels(self):
        self.assertEqual(last(graph([0, 0, 2, 0, 0, 0], [1, 3, 2, 3])), [-3])


class ToldFirst(unittest.TestCase):
    def test_places_before_channels(self):
        self.assertEqual(last(graph([0, 0, 3, 0], [2, 1])), [-1])
        self.assertEqual(last(graph([], [1])), [-1])
        self.assertEqual(last(graph([0, 0, 0, 1], [1, 2] * 17)), [-1])

    def test_places_before_sources(self):
        self.assertEqual(last(graph([2, 0, 0, 1], [])), [-1])
        self.assertEqual(last(graph([2, 5], [])), [-1])

    def test_channels_before_sources(self):
        self.assertEqual(last(graph([2, 0, 0, 0], [1])), [-2])
        self.assertEqual(last(graph([2, 0, 0, 0], [2, 1])), [-2])

    def test_all_three(self):
        self.assertEqual(last(graph([2, 0, 0, 1], [2, 1])), [-1])


class LeftAsItWas(unittest.TestCase):
    BAD = (graph([0], []), graph([0, 0], [1, 2]), graph([2, 0], []))

    def test_what_is_on_channels_and_the_numbers(self):
        for bad in self.BAD:
            parts = ask(emit(1, 5), mark(1, 6), bad, emit(1, 6), take(1), take(1), take(1), take(1))
            self.assertEqual(parts[3:], [[2], [1, 1, 5, 1], [2, 6], [1, 2, 6, 1], [-5]])

    def test_marks_and_rest(self):
        for bad in self.BAD:
            parts = ask(mark(1, 9), rest(2), turns(2), bad, emit(1, 8), rest(2), emit(2, 3), take(2), take(2))
            self.assertEqual(parts[4:], [[-2], [0], [1], [4], [1, 1, 3, 0]])

    def test_another_graph_stays_too(self):
        parts = ask(graph([0, 0, 1, 5, 0, 0], [1, 2, 2, 3]), emit(1, 1), graph([], []), take(1), take(2))
        self.assertEqual(parts, [[2], [1], [-1], [1, 1, 1, 1], [1, 1, 6, 1]])


class BegunAnew(unittest.TestCase):
    SAME = graph([0, 0, 0, 0, 0, 0], [1, 3, 2, 3])

    def test_numbers_from_1(self):
        self.assertEqual(ask(emit(1, 0), emit(2, 0), self.SAME, emit(2, 0)), [[1], [2], [2], [1]])

    def test_marks_of_sources_are_0(self):
        self.assertEqual(ask(mark(1, 9), self.SAME, mark(1, 0), emit(1, 0)), [[9], [2], [0], [1]])

    def test_marks_of_places_are_0(self):
        parts = ask(mark(1, 9), mark(2, 9), turns(1), self.SAME, emit(1, 0), take(1))
        self.assertEqual(parts[-1], [1, 1, 0, 1])

    def test_marks_of_channels_are_0(self):
        parts = ask(mark(2, 9), turns(1), self.SAME, mark(1, 9), emit(1, 9), emit(2, 0), turns(2), take(1), take(2))
        self.assertEqual(parts[-3:], [[3], [-5], [-5]])
        parts = ask(mark(2, 9), turns(1), self.SAME, mark(1, 9), emit(2, 0), take(1), take(2))
        self.assertEqual(parts[-1], [1, 1, 0, 1])

    def test_nobody_rests(self):
        self.assertEqual(ask(rest(1), self.SAME, rest(1)), [[1], [2], [1]])
        self.assertEqual(drained(1, rest(1), self.SAME, emit(1, 2)), [[1, 1, 2, 1]])

    def test_no_channel_rests(self):
        # Were channel 2 still at rest, the mark of channel 1 would go through place 3.
        parts = ask(rest(2), turns(1), self.SAME, mark(1, 9), take(1), emit(2, 0), take(2))
        self.assertEqual(parts[-1], [1, 1, 0, 1])

    def test_nothing_on_the_channels(self):
        self.assertEqual(ask(emit(1, 0), mark(2, 1), self.SAME, take(1), take(2))[-2:], [[-5], [-5]])
        self.assertEqual(ask(emit(1, 0), mark(2, 1), self.SAME, turns(200))[-1], [0])

    def test_old_places_and_channels_are_gone(self):
        parts = ask(graph([0, 0], []), emit(2, 0), emit(1, 0), take(1))
        self.assertEqual(parts, [[0], [-1], [1], [-1]])


if __name__ == "__main__":
    unittest.main()
