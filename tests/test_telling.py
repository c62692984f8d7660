"""Point 4: place, held, tape, channel and inputs."""

import unittest

from tests.helper import (
    ask, channel, emit, graph, held, inputs, joining, last, mark, place, rest, take, tape, through, turns,
)

MOST = 4294967295
OF_PLACES = (place, held, tape, inputs)
# All that can be asked of the five places and four channels of joining.
ALL_ASKED = tuple([call(p) for call in OF_PLACES for p in (1, 2, 3, 4, 5)] + [channel(c) for c in (1, 2, 3, 4)])


class Refused(unittest.TestCase):
    def test_no_such_place(self):
        for call in OF_PLACES:
            for p in (0, 4, 9, MOST):
                self.assertEqual(ask(call(p)), [[-1]])

    def test_around_the_last_place_of_other_graphs(self):
        for call in OF_PLACES:
            for size in (1, 2, 8):
                made = graph([0, 0] * size, [])
                self.assertEqual(ask(made, call(0), call(size + 1), call(MOST))[1:], [[-1]] * 3)
                self.assertGreaterEqual(last(made, call(1))[0], 0)
                self.assertGreaterEqual(last(made, call(size))[0], 0)

    def test_no_such_channel(self):
        for c in (0, 3, 17, MOST):
            self.assertEqual(ask(channel(c)), [[-1]])
        full = graph([0, 0] * 2, [1, 2] * 16)
        self.assertEqual(ask(full, channel(0), channel(1), channel(16), channel(17), channel(MOST))[1:],
                         [[-1], [0], [0], [-1], [-1]])

    def test_graph_without_channels(self):
        alone = graph([0, 0] * 3, [])
        self.assertEqual(ask(alone, channel(0), channel(1), channel(2), channel(MOST))[1:], [[-1]] * 4)

    def test_places_are_no_channels_nor_channels_places(self):
        # Three places and two channels; then two places and three channels.
        self.assertEqual(ask(place(3), channel(3)), [[0, 0, 0, 0], [-1]])
        calls = [graph([0, 0] * 2, [1, 2] * 3), channel(3), *[call(3) for call in OF_PLACES]]
        self.assertEqual(ask(*calls), [[3], [0], [-1], [-1], [-1], [-1]])

    def test_refused_leaves_all_as_it_was(self):
        wrong = [call(p) for call in OF_PLACES for p in (0, 4, MOST)] + [channel(0), channel(3), channel(MOST)]
        asked = [place(1), tape(1), channel(1), channel(2), place(3), inputs(3), take(1), take(2), emit(1, 5)]
        before = [emit(1, 5), mark(1, 5), rest(2), turns(1)]
        self.assertEqual(ask(*before, *wrong, *asked)[-len(asked):], ask(*before, *asked)[-len(asked):])


class AtTheBeginning(unittest.TestCase):
    def test_nothing_has_come(self):
        for p in (1, 2, 3):
            self.assertEqual(ask(place(p), held(p), tape(p)), [[0, 0, 0, 0], [0], [0]])
        self.assertEqual(ask(channel(1), channel(2)), [[0], [0]])
        self.assertEqual(ask(inputs(1), inputs(2), inputs(3)), [[0], [0], [2, 1, 0, 0, 0, 0, 2, 0, 0, 0, 0]])


class ChangesNothing(unittest.TestCase):
    BEFORE = (
        joining(2, 0), emit(1, 9), emit(1, 4), emit(2, 4), mark(1, 5), rest(2), rest(3), turns(4), emit(3, 4), mark(2, 3),
    )
    BEHIND = (
        take(3), take(3), take(2), take(2), mark(1, 20), mark(2, 20), mark(3, 20), take(1), take(2), take(3), take(4),
        take(4), take(4), rest(1), rest(2), turns(1), place(4), inputs(4), tape(4),
    )

    def test_asked_twice(self):
        once = ask(*self.BEFORE, *ALL_ASKED)[len(self.BEFORE):]
        twice = ask(*self.BEFORE, *[call for call in ALL_ASKED for k in range(2)])[len(self.BEFORE):]
        self.assertEqual(twice[0::2], once)
        self.assertEqual(twice[1::2], once)

    def test_what_follows_is_as_if_not_asked(self):
        plain = ask(*self.BEFORE, *self.BEHIND)[len(self.BEFORE):]
        self.assertNotIn([-5], plain)
        for k in range(0, len(ALL_ASKED), 4):
            asked = ask(*self.BEFORE, *ALL_ASKED[k:k + 4], *self.BEHIND)[-len(self.BEHIND):]
            self.assertEqual(asked, plain)

    def test_before_every_call(self):
        calls = self.BEFORE + self.BEHIND
        for probe in (place(4), held(4), tape(4), inputs(4), channel(1), channel(4)):
            probed = ask(*[part for call in calls for part in (probe, call)])
            self.assertEqual(probed[1::2], ask(*calls))


class Place(unittest.TestCase):
    def test_mark_of_a_source(self):
        self.assertEqual(ask(mark(1, 5), place(1), mark(1, 5), place(1), mark(1, 8), place(1), place(2))[1::2],
                         [[5, 0, 0, 0], [5, 0, 0, 0], [8, 0, 0, 0]])
        self.assertEqual(ask(mark(1, 5), mark(1, 4), mark(1, 1000001), place(1), place(2))[3:], [[5, 0, 0, 0], [0, 0, 0, 0]])

    def test_mark_before_and_behind_it_goes_up(self):
        calls = [mark(1, 7), mark(2, 4), place(3), take(1), place(3), take(2), place(3)]
        self.assertEqual(ask(*calls)[2::2], [[0, 0, 0, 0], [0, 0, 0, 0], [4, 0, 0, 0]])
        calls = calls + [mark(2, 6), place(3), take(2), place(3), mark(2, 9), take(2), place(3)]
        self.assertEqual([part for part in ask(*calls)[7:] if len(part) == 4], [[4, 0, 0, 0], [6, 0, 0, 0], [7, 0, 0, 0]])

    def test_mark_of_a_place_that_lifts_is_not_lifted(self):
        self.assertEqual(ask(through(1, 7), mark(1, 5), turns(2), place(1), place(2), place(3))[3:],
                         [[5, 0, 0, 0], [5, 0, 0, 0], [12, 0, 0, 0]])

    def test_mark_never_goes_back(self):
        calls = [mark(1, 9), rest(2), turns(1), place(3), mark(2, 3), turns(2), place(3), rest(1), turns(1), place(3)]
        self.assertEqual(ask(*calls)[3::3], [[9, 0, 0, 0]] * 3)

    def test_an_element_does_not_lift_the_mark(self):
        self.assertEqual(ask(emit(1, 9), turns(1), place(1), place(3))[2:], [[0, 0, 0, 0]] * 2)

    def test_source_rests_and_wakes(self):
        calls = [place(1), rest(1), place(1), rest(1), place(1), emit(1, 3), place(1), rest(1), place(1), mark(1, 3), place(1)]
        self.assertEqual(ask(*calls)[0::2],
                         [[0, 0, 0, 0], [0, 1, 0, 0], [0, 1, 0, 0], [0, 0, 0, 0], [0, 1, 0, 0], [3, 0, 0, 0]])
        self.assertEqual(ask(rest(1), place(2))[1], [0, 0, 0, 0])

    def test_refused_wakes_nobody(self):
        self.assertEqual(ask(mark(1, 5), rest(1), emit(1, 4), mark(1, 4), emit(1, 1000001), place(1))[-1], [5, 1, 0, 0])

    def test_place_with_several_channels_rests_and_wakes(self):
        calls = [joining(0, 0), rest(1), rest(2), rest(3), take(3), place(4), take(1), place(4), take(2), place(4)]
        self.assertEqual(ask(*calls)[5::2], [[0, 0, 0, 0], [0, 0, 0, 0], [0, 1, 0, 0]])
        calls = calls + [emit(2, 8), place(4), take(2), place(4), mark(1, 8), take(1), place(4)]
        parts = ask(*calls)[10:]
        self.assertEqual([parts[1], parts[3], parts[6]], [[0, 1, 0, 0], [0, 0, 0, 0], [0, 0, 0, 0]])
        calls = [joining(0, 0), rest(1), rest(2), rest(3), turns(1), place(4), place(5), turns(1), place(5)]
        self.assertEqual(ask(*calls)[5:], [[0, 1, 0, 0], [0, 1, 0, 0], [0], [0, 1, 0, 0]])

    def test_keeps_its_mark_over_its_rest(self):
        calls = [mark(1, 6), mark(2, 4), rest(1), rest(2), turns(1), place(3), turns(1), place(3)]
        self.assertEqual(ask(*calls)[5::2], [[4, 0, 0, 0], [4, 1, 0, 0]])

    def test_goes_up_when_the_slow_channel_rests(self):
        calls = [mark(1, 4), mark(2, 6), rest(1), rest(2), turns(1), place(3), take(1), place(3), take(2), place(3)]
        self.assertEqual(ask(*calls)[5::2], [[4, 0, 0, 0], [6, 0, 0, 0], [6, 1, 0, 0]])

    def test_how_many_it_holds(self):
        calls = [through(2, 0), emit(1, 5), emit(1, 7), emit(1, 5), place(2), take(1), place(2), take(1), take(1), place(2)]
        self.assertEqual([part for part in ask(*calls) if len(part) == 4 and part[0] == 0],
                         [[0, 0, 0, 0], [0, 0, 1, 0], [0, 0, 3, 0]])
        self.assertEqual(last(*calls, mark(1, 5), take(1), place(2)), [5, 0, 3, 0])
        self.assertEqual(last(*calls, mark(1, 6), take(1), place(2)), [6, 0, 1, 0])
        self.assertEqual(last(*calls, mark(1, 8), take(1), place(2)), [8, 0, 0, 0])

    def test_others_hold_nothing(self):
        for kind, lift in ((0, 0), (1, 7)):
            self.assertEqual(last(through(kind, lift), emit(1, 5), turns(1), place(2)), [0, 0, 0, 0])

    def test_how_many_came_late(self):
        # By channel 3 the mark is 10; 1 and 2 rest, wake, and bring two late and one, each with one in time.
        calls = [joining(2, 0), mark(3, 10), rest(1), rest(2), turns(1), place(4)]
        calls = calls + [emit(1, 9), emit(2, 10), emit(2, 0), emit(1, 8), emit(1, 11), turns(1), place(4), turns(1), place(4)]
        self.assertEqual(ask(*calls, turns(2), place(4))[5:], [
            [10, 0, 0, 0], [1], [2], [3], [4], [5], [2], [10, 0, 0, 0], [2], [10, 0, 1, 1], [3], [10, 0, 2, 3],
        ])

    def test_late_for_each_place_by_itself(self):
        # By 1 to 3 and 2 to 3 it is late; by 2 to 4 it is not; to 5, behind 3, it never comes.
        made = graph([0, 0] * 5, [1, 3, 2, 3, 2, 4, 3, 5])
        calls = [made, mark(1, 10), rest(2), turns(1), emit(2, 3), turns(2)]
        self.assertEqual(ask(*calls, *[place(p) for p in range(1, 6)])[6:],
                         [[10, 0, 0, 0], [0, 0, 0, 0], [10, 0, 0, 1], [0, 0, 0, 0], [10, 0, 0, 0]])

    def test_same_element_late_by_two_channels(self):
        made = graph([0, 0] * 3, [1, 3, 2, 3, 2, 3])
        calls = [made, mark(1, 10), rest(2), turns(1), emit(2, 3), turns(2), place(3)]
        self.assertEqual(last(*calls), [10, 0, 0, 2])


class Held(unittest.TestCase):
    def test_nothing(self):
        self.assertEqual(ask(held(1), held(3)), [[0], [0]])
        self.assertEqual(ask(through(2, 0), emit(1, 5), held(2), held(1))[2:], [[0], [0]])
        for kind, lift in ((0, 0), (1, 7)):
            self.assertEqual(last(through(kind, lift), emit(1, 5), turns(1), held(2)), [0])

    def test_one(self):
        self.assertEqual(last(through(2, 0), emit(1, 5), take(1), held(2)), [1, 1, 5])

    def test_least_time_first_then_what_came_first(self):
        calls = [through(2, 0), *[emit(1, t) for t in (7, 3, 7, 3, 9, 1, 3, 7)], turns(8), held(2)]
        self.assertEqual(last(*calls), [8, 6, 1, 2, 3, 4, 3, 7, 3, 1, 7, 3, 7, 8, 7, 5, 9])

    def test_what_came_first_is_not_the_least_number(self):
        calls = [joining(2, 0), emit(1, 5), emit(2, 5), emit(3, 5), emit(2, 4), take(3), take(1), take(2), take(2)]
        self.assertEqual(last(*calls, held(4)), [4, 4, 4, 3, 5, 1, 5, 2, 5])

    def test_same_element_by_two_channels(self):
        self.assertEqual(last(graph([0, 0, 2, 0], [1, 2, 1, 2]), emit(1, 5), turns(1), held(2)), [2, 1, 5, 1, 5])

    def test_behind_a_mark_that_hands_on_some(self):
        calls = [through(2, 0), *[emit(1, t) for t in (9, 5, 6, 5, 9)], turns(5)]
        self.assertEqual(last(*calls, mark(1, 5), held(2)), [5, 2, 5, 4, 5, 3, 6, 1, 9, 5, 9])
        self.assertEqual(last(*calls, mark(1, 5), take(1), held(2)), [5, 2, 5, 4, 5, 3, 6, 1, 9, 5, 9])
        self.assertEqual(last(*calls, mark(1, 6), take(1), held(2)), [3, 3, 6, 1, 9, 5, 9])
        self.assertEqual(last(*calls, mark(1, 9), take(1), held(2)), [2, 1, 9, 5, 9])
        self.assertEqual(last(*calls, mark(1, 10), take(1), held(2)), [0])

    def test_came_behind_such_a_mark(self):
        calls = [through(2, 0), emit(1, 5), emit(1, 9), mark(1, 6), emit(1, 6), emit(1, 9), turns(5), held(2)]
        self.assertEqual(last(*calls), [3, 3, 6, 2, 9, 4, 9])

    def test_order_of_coming_stays_when_asked(self):
        # Asked in between, of the same time what came first is still told and handed on first.
        calls = [through(2, 0), emit(1, 9), emit(1, 5), turns(2), held(2), emit(1, 9), emit(1, 5), turns(2), held(2)]
        self.assertEqual(last(*calls), [4, 2, 5, 4, 5, 1, 9, 3, 9])
        self.assertEqual(last(*calls, mark(1, 10), take(1), channel(2)), [5, 1, 2, 5, 1, 4, 5, 1, 1, 9, 1, 3, 9, 2, 10])

    def test_late_is_not_held(self):
        calls = [joining(2, 0), mark(3, 10), rest(1), rest(2), turns(1), emit(1, 9), emit(1, 10), turns(3), held(4)]
        self.assertEqual(last(*calls), [1, 2, 10])

    def test_as_lifted_before(self):
        calls = [graph([0, 0, 1, 7, 2, 0], [1, 2, 2, 3]), emit(1, 5), emit(1, 3), turns(2), held(3)]
        self.assertEqual(last(*calls), [2, 2, 10, 1, 12])


class Tape(unittest.TestCase):
    def test_of_a_source(self):
        calls = [emit(1, 9), emit(2, 1), emit(1, 4), mark(1, 3), rest(1), emit(1, 2), emit(1, 6)]
        self.assertEqual(ask(*calls, tape(1), tape(2), tape(3))[7:], [[3, 1, 9, 3, 4, 4, 6], [1, 2, 1], [0]])

    def test_of_a_source_without_channels(self):
        self.assertEqual(last(graph([0, 0], []), emit(1, 9), emit(1, 4), tape(1)), [2, 1, 9, 2, 4])

    def test_passes_on(self):
        calls = [emit(1, 9), emit(2, 1), emit(1, 4), take(2), tape(3), take(1), take(1), tape(3)]
        self.assertEqual(ask(*calls)[4::3], [[1, 2, 1], [3, 2, 1, 1, 9, 3, 4]])

    def test_lifts(self):
        calls = [through(1, 7), emit(1, 9), emit(1, 4), turns(2)]
        self.assertEqual(ask(*calls, tape(1), tape(2), tape(3))[4:],
                         [[2, 1, 9, 2, 4], [2, 1, 16, 2, 11], [2, 1, 16, 2, 11]])

    def test_lifts_twice(self):
        made = graph([0, 0, 1, 1000, 1, 7], [1, 2, 2, 3])
        self.assertEqual(last(made, emit(1, 1000000), turns(1), tape(3)), [1, 1, 1001007])

    def test_holds_back(self):
        calls = [through(2, 0), *[emit(1, t) for t in (7, 3, 7, 3, 9, 1)], turns(6)]
        self.assertEqual(last(*calls, tape(2)), [0])
        self.assertEqual(last(*calls, mark(1, 3), turns(1), tape(2)), [1, 6, 1])
        self.assertEqual(last(*calls, mark(1, 3), mark(1, 9), turns(2), tape(2)), [5, 6, 1, 2, 3, 4, 3, 1, 7, 3, 7])
        self.assertEqual(ask(*calls, mark(1, 10), turns(1), tape(2), held(2))[-2:],
                         [[6, 6, 1, 2, 3, 4, 3, 1, 7, 3, 7, 5, 9], [0]])

    def test_late_is_not_on_it(self):
        for kind, lift in ((0, 0), (1, 7), (2, 0)):
            calls = [joining(kind, lift), mark(3, 10), rest(1), rest(2), turns(1), emit(1, 9), emit(1, 10), turns(3)]
            calls = calls + [mark(1, 20), mark(3, 20), turns(1), tape(1), tape(4)]
            self.assertEqual(ask(*calls)[-2:], [[2, 1, 9, 2, 10], [1, 2, 10 + lift]])

    def test_same_element_by_two_channels(self):
        self.assertEqual(last(graph([0, 0] * 2, [1, 2, 1, 2]), emit(1, 5), turns(1), tape(2)), [2, 1, 5, 1, 5])

    def test_refused_is_not_on_it(self):
        self.assertEqual(last(mark(1, 5), emit(1, 4), emit(1, 1000001), emit(1, 5), tape(1)), [1, 1, 5])


class OnAChannel(unittest.TestCase):
    ALL = (emit(1, 3), mark(1, 4), rest(1), emit(1, 4), mark(1, 6))
    TOLD = [6, 1, 1, 3, 2, 4, 3, 4, 1, 2, 4, 2, 6]

    def test_empty(self):
        self.assertEqual(ask(channel(1), emit(2, 3), channel(1), take(2), channel(2))[0::2], [[0], [0], [0]])

    def test_each_item_alone(self):
        self.assertEqual(last(emit(1, 3), channel(1)), [1, 1, 1, 3])
        self.assertEqual(last(mark(1, 4), channel(1)), [1, 2, 4])
        self.assertEqual(last(rest(1), channel(1)), [1, 3])
        self.assertEqual(last(rest(1), mark(1, 0), take(1), channel(1)), [2, 4, 2, 0])

    def test_all_four_items_in_order(self):
        self.assertEqual(last(*self.ALL, channel(1)), self.TOLD)

    def test_the_first_is_told_first_and_gone_when_taken(self):
        calls = [*self.ALL, take(1), channel(1), take(1), channel(1), take(1), take(1), channel(1)]
        self.assertEqual([part for part in ask(*calls)[6:] if len(part) > 2],
                         [[5, 2, 4, 3, 4, 1, 2, 4, 2, 6], [4, 3, 4, 1, 2, 4, 2, 6], [2, 1, 2, 4, 2, 6]])

    def test_several_that_leave_one_place(self):
        fan = graph([0, 0] * 4, [1, 2, 2, 3, 2, 4, 2, 4, 1, 4])
        calls = [fan, *self.ALL, *[channel(c) for c in range(1, 6)]]
        self.assertEqual(ask(*calls)[6:], [self.TOLD, [0], [0], [0], self.TOLD])
        calls = [fan, *self.ALL, *[take(1)] * 6, *[channel(c) for c in range(1, 6)]]
        self.assertEqual(ask(*calls)[12:], [[0], self.TOLD, self.TOLD, self.TOLD, self.TOLD])

    def test_taken_from_one_alone(self):
        fan = graph([0, 0] * 3, [1, 2, 1, 3])
        self.assertEqual(ask(fan, *self.ALL, take(2), channel(1), channel(2))[7:], [self.TOLD, [5] + self.TOLD[4:]])

    def test_lifted(self):
        self.assertEqual(last(through(1, 7), *self.ALL, *[take(1)] * 6, channel(2)),
                         [6, 1, 1, 10, 2, 11, 3, 4, 1, 2, 11, 2, 13])

    def test_held_back(self):
        self.assertEqual(last(through(2, 0), *self.ALL, *[take(1)] * 6, channel(2)),
                         [6, 1, 1, 3, 2, 4, 3, 4, 1, 2, 4, 2, 6])
        self.assertEqual(last(through(2, 0), *self.ALL, *[take(1)] * 5, channel(2)), [4, 1, 1, 3, 2, 4, 3, 4])


class Inputs(unittest.TestCase):
    def test_of_a_source(self):
        self.assertEqual(ask(inputs(1), mark(1, 5), rest(1), inputs(1), inputs(2))[0::3], [[0], [0]])
        self.assertEqual(last(graph([0, 0], []), inputs(1)), [0])

    def test_channels_in_order(self):
        made = graph([0, 0] * 4, [3, 4, 1, 4, 2, 3, 2, 4, 1, 3])
        self.assertEqual(ask(made, *[inputs(p) for p in (1, 2, 3, 4)])[1:], [
            [0], [0], [2, 3, 0, 0, 0, 0, 5, 0, 0, 0, 0], [3, 1, 0, 0, 0, 0, 2, 0, 0, 0, 0, 4, 0, 0, 0, 0],
        ])

    def test_greatest_mark_that_came(self):
        calls = [mark(1, 5), mark(1, 5), mark(1, 8), mark(2, 3), inputs(3), take(1), inputs(3), take(1), inputs(3), take(1)]
        self.assertEqual(ask(*calls, inputs(3), take(2), inputs(3))[4::2], [
            [2, 1, 0, 0, 0, 0, 2, 0, 0, 0, 0], [2, 1, 5, 0, 0, 0, 2, 0, 0, 0, 0], [2, 1, 5, 0, 0, 0, 2, 0, 0, 0, 0],
            [2, 1, 8, 0, 0, 0, 2, 0, 0, 0, 0], [2, 1, 8, 0, 0, 0, 2, 3, 0, 0, 0],
        ])

    def test_mark_as_it_came(self):
        self.assertEqual(ask(through(1, 7), mark(1, 5), turns(2), inputs(2), inputs(3))[3:],
                         [[1, 1, 5, 0, 0, 0], [1, 2, 12, 0, 0, 0]])

    def test_rests_and_rests_no_more(self):
        calls = [rest(2), inputs(3), take(2), inputs(3), mark(2, 4), inputs(3), take(2), inputs(3), take(2), inputs(3)]
        calls = calls + [rest(2), take(2), inputs(3)]
        self.assertEqual([part[6:] for part in ask(*calls) if len(part) == 11], [
            [2, 0, 0, 0, 0], [2, 0, 1, 1, 0], [2, 0, 1, 1, 0], [2, 0, 0, 1, 0], [2, 4, 0, 1, 0], [2, 4, 1, 1, 0],
        ])
        self.assertEqual([part[1:6] for part in ask(*calls) if len(part) == 11], [[1, 0, 0, 0, 0]] * 6)

    def test_ever_rested_stays(self):
        calls = [rest(1), mark(1, 4), turns(3), inputs(3), emit(1, 5), mark(1, 6), turns(2), inputs(3)]
        self.assertEqual(ask(*calls)[3::4], [[2, 1, 4, 0, 1, 0, 2, 0, 0, 0, 0], [2, 1, 6, 0, 1, 0, 2, 0, 0, 0, 0]])

    def test_rests_behind_a_place_that_rests(self):
        calls = [joining(0, 0), rest(1), rest(2), rest(3), take(1), take(2), take(3), inputs(5), take(4), inputs(5)]
        calls = calls + [mark(1, 4), take(1), take(4), inputs(5), inputs(4)]
        parts = ask(*calls)
        self.assertEqual([parts[7], parts[9], parts[13]], [[1, 4, 0, 0, 0, 0], [1, 4, 0, 1, 1, 0], [1, 4, 0, 0, 1, 0]])
        self.assertEqual(parts[14], [3, 1, 0, 0, 1, 0, 2, 0, 1, 1, 0, 3, 0, 1, 1, 0])

    def test_late_channel_by_channel(self):
        calls = [joining(0, 0), mark(3, 10), rest(1), rest(2), turns(1), inputs(4)]
        self.assertEqual(last(*calls), [3, 1, 0, 1, 1, 0, 2, 0, 1, 1, 0, 3, 10, 0, 0, 0])
        calls = calls + [emit(1, 9), emit(1, 8), emit(1, 10), emit(2, 0), emit(2, 11), emit(3, 10), turns(2)]
        self.assertEqual(last(*calls, inputs(4)), [3, 1, 0, 0, 1, 1, 2, 0, 0, 1, 1, 3, 10, 0, 0, 0])
        self.assertEqual(ask(*calls, turns(2), inputs(4), place(4))[-2:],
                         [[3, 1, 0, 0, 1, 2, 2, 0, 0, 1, 1, 3, 10, 0, 0, 0], [10, 0, 0, 3]])

    def test_late_by_take_too(self):
        calls = [mark(1, 10), rest(2), take(2), take(1), emit(2, 9), take(2), inputs(3), take(2), inputs(3)]
        self.assertEqual(ask(*calls)[6::2], [[2, 1, 10, 0, 0, 0, 2, 0, 0, 1, 0], [2, 1, 10, 0, 0, 0, 2, 0, 0, 1, 1]])

    def test_two_channels_with_the_same_ends(self):
        twice = graph([0, 0] * 2, [1, 2, 1, 2])
        calls = [twice, mark(1, 5), rest(1), take(2), inputs(2), take(2), inputs(2), take(1), inputs(2)]
        self.assertEqual(ask(*calls)[4::2], [
            [2, 1, 0, 0, 0, 0, 2, 5, 0, 0, 0], [2, 1, 0, 0, 0, 0, 2, 5, 1, 1, 0], [2, 1, 5, 0, 0, 0, 2, 5, 1, 1, 0],
        ])


class Graphs(unittest.TestCase):
    """What a graph that is taken, or refused, does with all that is told."""

    BUSY = (
        joining(2, 0), mark(3, 10), rest(1), rest(2), turns(1), emit(1, 9), emit(2, 20), emit(3, 12), turns(2),
        rest(1), emit(1, 11), mark(3, 15), take(3),
    )

    def test_busy_enough(self):
        self.assertEqual(ask(*self.BUSY, place(1), place(4), held(4), tape(1), channel(1), inputs(4))[13:], [
            [0, 0, 0, 0], [10, 0, 2, 1], [2, 3, 12, 2, 20], [2, 1, 9, 4, 11], [3, 3, 4, 1, 4, 11],
            [3, 1, 0, 0, 1, 1, 2, 0, 0, 1, 0, 3, 15, 0, 0, 0],
        ])

    def test_taken_begins_anew(self):
        anew = ask(joining(2, 0), *ALL_ASKED)[1:]
        self.assertEqual(ask(*self.BUSY, joining(2, 0), *ALL_ASKED)[-len(ALL_ASKED):], anew)
        self.assertEqual(anew, [[0, 0, 0, 0]] * 5 + [[0]] * 10 + [
            [0], [0], [0], [3, 1, 0, 0, 0, 0, 2, 0, 0, 0, 0, 3, 0, 0, 0, 0], [1, 4, 0, 0, 0, 0],
        ] + [[0]] * 4)

    def test_another_one_has_its_own_places_and_channels(self):
        calls = [*self.BUSY, graph([0, 0] * 2, [1, 2]), place(2), place(3), inputs(2), channel(1), channel(2), tape(1)]
        self.assertEqual(ask(*calls)[-6:], [[0, 0, 0, 0], [-1], [1, 1, 0, 0, 0, 0], [0], [-1], [0]])

    def test_refused_leaves_all_as_it_was(self):
        as_it_was = ask(*self.BUSY, *ALL_ASKED)[-len(ALL_ASKED):]
        for bad in (graph([], []), graph([0], []), graph([0, 0], [1, 2]), graph([0, 0], [1]), graph([2, 0], [])):
            self.assertEqual(ask(*self.BUSY, bad, *ALL_ASKED)[-len(ALL_ASKED):], as_it_was)


if __name__ == "__main__":
    unittest.main()
