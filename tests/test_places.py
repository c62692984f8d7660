"""The words: what a place of each sort does, and how it looks at its channels."""

import unittest

from tests.helper import ask, drained, emit, graph, joining, mark, rest, take, through, turns


class PassesOn(unittest.TestCase):
    def test_items_as_they_came(self):
        calls = [through(0, 0), emit(1, 8), emit(1, 3), mark(1, 3), rest(1), emit(1, 5)]
        self.assertEqual(drained(2, *calls, *[take(1)] * 6),
                         [[1, 1, 8, 1], [1, 2, 3, 1], [2, 3], [3], [4], [1, 3, 5, 1]])

    def test_nothing_before_it_is_taken(self):
        self.assertEqual(drained(2, through(0, 0), emit(1, 8), mark(1, 8), rest(1)), [])

    def test_on_all_channels_that_leave_it(self):
        fan = graph([0, 0, 0, 0, 0, 0, 0, 0], [1, 2, 2, 3, 2, 4, 2, 4, 1, 4])
        calls = [fan, emit(1, 8), mark(1, 9), rest(1), emit(1, 9), *[take(1)] * 5]
        for c in (2, 3, 4):
            taken = drained(c, *calls)
            self.assertEqual([part[:3] for part in taken], [[1, 1, 8], [2, 9], [3], [4], [1, 2, 9]])


class Lifts(unittest.TestCase):
    def test_times_and_marks(self):
        calls = [through(1, 7), emit(1, 8), mark(1, 9), rest(1), emit(1, 10), *[take(1)] * 5]
        self.assertEqual(drained(2, *calls), [[1, 1, 15, 1], [2, 16], [3], [4], [1, 2, 17, 1]])

    def test_by_0_and_by_1000(self):
        for lift in (0, 1000):
            calls = [through(1, lift), emit(1, 1000000), mark(1, 1000000), take(1), take(1)]
            self.assertEqual(drained(2, *calls), [[1, 1, 1000000 + lift, 1], [2, 1000000 + lift]])

    def test_twice_in_a_row(self):
        calls = [graph([0, 0, 1, 1000, 1, 1000, 0, 0], [1, 2, 2, 3, 3, 4]), emit(1, 5), mark(1, 6), turns(2)]
        self.assertEqual(ask(*calls)[-1], [6])
        calls = [graph([0, 0, 1, 1000, 1, 1, 0, 0], [1, 2, 2, 3, 3, 4]), emit(1, 5), mark(1, 6)]
        self.assertEqual(drained(3, *calls, take(1), take(1), take(2), take(2)), [[1, 1, 1006, 1], [2, 1007]])

    def test_its_own_mark_is_not_lifted(self):
        # Place 4's mark is 10, not 17: 10 is in time, 9 is late.
        calls = [joining(1, 7), mark(1, 10), rest(2), rest(3), take(2), take(3), take(1), take(4)]
        woken = [emit(2, 10), emit(2, 9), take(2), take(2), take(2), take(4), take(4)]
        self.assertEqual(ask(*calls, *woken)[7:], [[2, 17], [1], [2], [4], [1, 1, 10, 1], [1, 2, 9, 0], [1, 1, 17, 1], [-5]])

    def test_next_place_has_the_lifted_mark(self):
        # By channel 2 place 3 hears of 17; by channel 3, that had rested, 16 is late and 17 is not.
        calls = [graph([0, 0, 1, 7, 0, 0, 0, 0], [1, 2, 2, 4, 3, 4]), mark(1, 10), rest(3), turns(2)]
        self.assertEqual(ask(*calls, emit(3, 16), emit(3, 17), take(3), take(3), take(3))[-2:],
                         [[1, 1, 16, 0], [1, 2, 17, 1]])


class HoldsBack(unittest.TestCase):
    def test_until_the_mark_is_above(self):
        calls = [through(2, 0), emit(1, 5), emit(1, 6), take(1), take(1)]
        self.assertEqual(drained(2, *calls), [])
        self.assertEqual(drained(2, *calls, mark(1, 5), take(1)), [[2, 5]])
        self.assertEqual(drained(2, *calls, mark(1, 5), mark(1, 6), take(1), take(1)), [[2, 5], [1, 1, 5, 1], [2, 6]])
        self.assertEqual(drained(2, *calls, mark(1, 7), take(1)), [[1, 1, 5, 1], [1, 2, 6, 1], [2, 7]])

    def test_is_kept_in_time(self):
        self.assertEqual(ask(through(2, 0), emit(1, 5), take(1), take(2))[2:], [[1, 1, 5, 1], [-5]])

    def test_least_time_first_then_what_came_first(self):
        times = [7, 3, 7, 3, 9, 1, 3, 7]
        calls = [through(2, 0), *[emit(1, t) for t in times], mark(1, 8), *[take(1)] * 9]
        numbers = [6, 2, 4, 7, 1, 3, 8]
        self.assertEqual(drained(2, *calls), [[1, n, times[n - 1], 1] for n in numbers] + [[2, 8]])

    def test_what_came_first_is_not_the_least_number(self):
        calls = [joining(2, 0), emit(1, 5), emit(2, 5), emit(3, 5), take(3), take(1), take(2)]
        calls = calls + [mark(1, 6), mark(2, 6), mark(3, 6), take(1), take(2), take(3)]
        self.assertEqual(drained(4, *calls), [[1, 3, 5, 1], [1, 1, 5, 1], [1, 2, 5, 1], [2, 6]])

    def test_in_two_goes(self):
        calls = [through(2, 0), emit(1, 5), emit(1, 9), emit(1, 5), mark(1, 6), emit(1, 9), emit(1, 8), mark(1, 10)]
        self.assertEqual(drained(2, *calls, *[take(1)] * 7),
                         [[1, 1, 5, 1], [1, 3, 5, 1], [2, 6], [1, 5, 8, 1], [1, 2, 9, 1], [1, 4, 9, 1], [2, 10]])

    def test_rest_does_not_let_go(self):
        calls = [through(2, 0), emit(1, 5), rest(1), take(1), take(1)]
        self.assertEqual(drained(2, *calls), [[3]])
        self.assertEqual(drained(2, *calls, mark(1, 6), take(1), take(1)), [[3], [4], [1, 1, 5, 1], [2, 6]])

    def test_lets_go_when_the_slow_channel_rests(self):
        calls = [joining(2, 0), mark(1, 6), mark(2, 9), emit(1, 7), *[take(1)] * 2, take(2)]
        self.assertEqual(drained(4, *calls), [])
        self.assertEqual(drained(4, *calls, rest(3), take(3)), [[2, 6]])
        self.assertEqual(drained(4, *calls, rest(3), rest(1), take(1), take(3)), [[1, 1, 7, 1], [2, 9]])


class LooksAtItsChannels(unittest.TestCase):
    def marks(self, *calls):
        return drained(4, joining(0, 0), *calls)

    def test_least_of_all(self):
        calls = [mark(1, 10), mark(2, 5), mark(3, 7)]
        self.assertEqual(self.marks(*calls, take(1), take(2)), [])
        for order in ((1, 2, 3), (3, 2, 1), (2, 1, 3)):
            self.assertEqual(self.marks(*calls, *[take(c) for c in order]), [[2, 5]])
        more = [mark(2, 6), mark(2, 20), take(1), take(2), take(3), take(2), take(2)]
        self.assertEqual(self.marks(*calls, *more), [[2, 5], [2, 6], [2, 7]])

    def test_only_when_it_goes_up(self):
        calls = [mark(1, 5), mark(2, 5), mark(3, 5), mark(1, 5), mark(1, 9), *[take(1)] * 3, take(2), take(3)]
        self.assertEqual(self.marks(*calls), [[2, 5]])
        calls = calls + [mark(2, 5), take(2), mark(2, 6), take(2)]
        self.assertEqual(self.marks(*calls), [[2, 5]])

    def test_mark_0_goes_nowhere(self):
        self.assertEqual(self.marks(mark(1, 0), mark(2, 0), mark(3, 0), take(1), take(2), take(3)), [])

    def test_those_that_rest_do_not_count(self):
        calls = [mark(1, 10), mark(2, 8), mark(3, 3), rest(3), take(1), take(2), take(3)]
        self.assertEqual(self.marks(*calls), [[2, 3]])
        self.assertEqual(self.marks(*calls, take(3)), [[2, 3], [2, 8]])
        self.assertEqual(self.marks(*calls, take(3), rest(2), take(2)), [[2, 3], [2, 8], [2, 10]])

    def test_rests_when_all_rest(self):
        calls = [rest(1), rest(2), rest(3), take(2), take(3)]
        self.assertEqual(self.marks(*calls), [])
        self.assertEqual(self.marks(*calls, take(1)), [[3]])

    def test_goes_up_no_more_when_all_rest(self):
        calls = [mark(1, 10), mark(2, 8), mark(3, 9), rest(2), rest(3), rest(1)]
        taken = [take(1), take(1), take(2), take(2), take(3)]
        self.assertEqual(self.marks(*calls, *taken), [[2, 9]])
        self.assertEqual(self.marks(*calls, *taken, take(3)), [[2, 9], [3]])

    def test_one_wakes(self):
        asleep = [mark(1, 4), mark(2, 4), mark(3, 4), rest(1), rest(2), rest(3)]
        asleep = asleep + [take(1), take(2), take(3)] * 2
        self.assertEqual(self.marks(*asleep), [[2, 4], [3]])
        self.assertEqual(self.marks(*asleep, emit(2, 4), take(2)), [[2, 4], [3], [4]])
        self.assertEqual(self.marks(*asleep, emit(2, 4), take(2), take(2)), [[2, 4], [3], [4], [1, 1, 4, 1]])
        self.assertEqual(self.marks(*asleep, mark(2, 6), take(2), take(2)), [[2, 4], [3], [4], [2, 6]])

    def test_wakes_and_goes_up_at_once(self):
        # Channel 3 was above the others when all fell to rest; alone awake, it carries the place up.
        calls = [mark(3, 9), rest(3), rest(1), rest(2), take(3), take(3), take(1), take(2)]
        self.assertEqual(self.marks(*calls), [[3]])
        self.assertEqual(self.marks(*calls, emit(3, 9), take(3)), [[3], [4], [2, 9]])

    def test_second_to_wake_is_not_told(self):
        calls = [rest(1), rest(2), rest(3), take(1), take(2), take(3), mark(1, 1), mark(2, 1), take(1), take(2)]
        self.assertEqual(self.marks(*calls), [[3], [4]])

    def test_rests_and_wakes_again(self):
        once = [rest(1), take(1), mark(1, 5), take(1)]
        calls = [rest(2), rest(3), take(2), take(3)] + once + [take(1), rest(1), take(1), emit(1, 5), take(1)]
        self.assertEqual(self.marks(*calls), [[3], [4], [2, 5], [3], [4]])

    def test_woken_channel_holds_up_again(self):
        calls = [mark(1, 10), rest(2), rest(3), take(2), take(3), take(1)]
        woken = [mark(2, 4), take(2), take(2), mark(1, 20), take(1)]
        self.assertEqual(self.marks(*calls, *woken), [[2, 10]])
        self.assertEqual(self.marks(*calls, *woken, mark(2, 10), take(2)), [[2, 10]])
        self.assertEqual(self.marks(*calls, *woken, mark(2, 11), take(2)), [[2, 10], [2, 11]])

    def test_mark_of_a_channel_stays_over_its_rest(self):
        calls = [mark(1, 10), mark(2, 6), rest(3), take(2), take(3), rest(2), take(2), emit(2, 6), take(2), take(1)]
        self.assertEqual(self.marks(*calls), [[2, 6]])

    def test_element_makes_nobody_look(self):
        calls = [mark(1, 5), rest(2), rest(3), take(2), take(1), emit(1, 6), take(1)]
        self.assertEqual(self.marks(*calls), [[1, 1, 6, 1]])

    def test_places_behind_one_another_rest_and_wake(self):
        chain = graph([0, 0] * 4, [1, 2, 2, 3, 3, 4])
        self.assertEqual(drained(3, chain, rest(1), take(1), take(2)), [[3]])
        calls = [chain, rest(1), mark(1, 2), *[take(1)] * 3, *[take(2)] * 3]
        self.assertEqual(drained(3, *calls), [[3], [4], [2, 2]])

    def test_two_channels_from_one_source(self):
        # 1 to 3 by way of 2, and straight: both must have said it.
        calls = [graph([0, 0] * 4, [1, 2, 2, 3, 1, 3, 3, 4]), mark(1, 5), rest(1), take(3), take(3)]
        self.assertEqual(drained(4, *calls), [])
        self.assertEqual(drained(4, *calls, take(1), take(2)), [[2, 5]])
        self.assertEqual(drained(4, *calls, take(1), take(1), take(2), take(2)), [[2, 5], [3]])
        calls = [graph([0, 0] * 4, [1, 2, 2, 3, 1, 3, 3, 4]), mark(1, 5), take(3), take(1), take(2)]
        self.assertEqual(drained(4, *calls), [[2, 5]])


if __name__ == "__main__":
    unittest.main()
