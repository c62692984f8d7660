"""What holds of all graphs and orders, over many that are drawn with fixed seeds."""

import random
import unittest

from restmarks.graphs import Line, answer_call, begin_graph
from tests.helper import channel, emit, held, inputs, mark, place, rest, take, tape


def drawn_graph(draw):
    """Places and channels that graph takes, every place but the last with a channel that leaves it."""
    size = draw.randint(2, 8)
    sources = draw.randint(1, size - 1)
    channels = []
    for p in range(1, size):
        channels.append((p, draw.randint(max(p, sources) + 1, size)))
    while len(channels) < 16 and draw.random() < 0.6:
        p = draw.randint(1, size - 1)
        channels.append((p, draw.randint(p + 1, size)))
    draw.shuffle(channels)
    targets = [target for origin, target in channels]
    places = [(0, 0)] * size
    for p in targets:
        if places[p - 1] == (0, 0):
            places[p - 1] = draw.choice([(0, 0), (1, draw.randint(0, 9)), (2, 0)])
    return places, channels


def flat(pairs):
    return [number for pair in pairs for number in pair]


class Run:
    """A drawn graph and what was taken in it, as (channel, answer) pairs.

    It goes call by call, as a list of sixty calls is too short for a long run."""

    def __init__(self, draw, with_rest):
        self.draw = draw
        self.with_rest = with_rest
        self.places, self.channels = drawn_graph(draw)
        self.line = Line()
        begin_graph(self.line, flat(self.places), flat(self.channels))
        self.marks = [0] * (len(self.places) + 1)
        self.taken = []
        targets = [target for origin, target in self.channels]
        self.sources = [p for p in range(1, len(self.places) + 1) if p not in targets]

    def call(self, call):
        return answer_call(self.line, call)

    def all_places(self):
        return range(1, len(self.places) + 1)

    def all_channels(self):
        return range(1, len(self.channels) + 1)

    def coming(self, p):
        return [c for c in self.all_channels() if self.channels[c - 1][1] == p]

    def in_time(self, p):
        """What place p took that was not late, in order, as (number, time) pairs."""
        coming = self.coming(p)
        return [tuple(answer[1:3]) for c, answer in self.taken if c in coming and answer[0] == 1 and answer[3] == 1]

    def pairs(self, call):
        told = self.call(call)
        if len(told) != 1 + 2 * told[0]:
            raise AssertionError(f"the count doesn't fit: {told}")
        return list(zip(told[1::2], told[2::2]))

    def speak(self):
        p = self.draw.choice(self.sources)
        time = self.marks[p] + self.draw.randint(0, 4)
        what = self.draw.randint(0, 3 if self.with_rest else 2)
        if what == 3:
            self.call(rest(p))
        elif what == 2:
            self.marks[p] = time
            self.call(mark(p, time))
        else:
            self.call(emit(p, time))

    def take_some(self, most):
        for k in range(self.draw.randint(0, most)):
            c = self.draw.randint(1, len(self.channels))
            answer = self.call(take(c))
            if answer != [-5]:
                self.taken.append((c, answer))

    def take_all(self):
        while any(self.call(channel(c)) != [0] for c in self.all_channels()):
            self.take_some(20)


def known_marks(run):
    """Of each channel the greatest mark that can be known by it: the least over all ways to it."""
    marks = list(run.marks)
    sent = {}
    for p in range(1, len(run.places) + 1):
        coming = [sent[k] for k, ends in enumerate(run.channels) if ends[1] == p]
        if coming:
            marks[p] = min(coming)
        for k, ends in enumerate(run.channels):
            if ends[0] == p:
                sent[k] = marks[p] + run.places[p - 1][1] if marks[p] > 0 else 0
    return [sent[k] for k in range(len(run.channels))]


def unfinished_runs(with_rest):
    for seed in range(300):
        run = Run(random.Random(seed), with_rest)
        for k in range(30):
            run.speak()
            run.take_some(6)
        yield seed, run


def runs(with_rest):
    for seed, run in unfinished_runs(with_rest):
        run.take_all()
        yield seed, run


def remembered(run, c):
    """What inputs tells of channel c, by what was taken from it."""
    taken = [answer for taken_by, answer in run.taken if taken_by == c]
    marks = [answer[1] for answer in taken if answer[0] == 2]
    switches = [answer for answer in taken if answer[0] in (3, 4)]
    late = [answer for answer in taken if answer[0] == 1 and answer[3] == 0]
    return [c, max(marks, default=0), int(switches[-1:] == [[3]]), int([3] in switches), len(late)]


def listed(told):
    """What channel tells, as a list of items."""
    sizes = {1: 3, 2: 2, 3: 1, 4: 1}
    found = []
    at = 1
    while at < len(told):
        found.append(told[at:at + sizes[told[at]]])
        at += sizes[told[at]]
    if at != len(told) or len(found) != told[0]:
        raise AssertionError(f"the count doesn't fit: {told}")
    return found


class AnyOrder(unittest.TestCase):
    def test_drawn_graphs_are_such_as_graph_takes(self):
        for seed, run in runs(False):
            self.assertEqual(begin_graph(Line(), flat(run.places), flat(run.channels)), len(run.channels), seed)

    def test_marks_are_the_best_that_can_be_known(self):
        for seed, run in runs(False):
            greatest = [0] * len(run.channels)
            for c, answer in run.taken:
                if answer[0] == 2:
                    greatest[c - 1] = max(greatest[c - 1], answer[1])
            self.assertEqual(greatest, known_marks(run), seed)
            for p in run.all_places():
                if p not in run.sources:
                    self.assertEqual(run.call(place(p))[0], min(known_marks(run)[c - 1] for c in run.coming(p)), seed)

    def test_without_rest_nothing_is_late(self):
        for seed, run in runs(False):
            self.assertEqual([answer for c, answer in run.taken if answer[0] == 1 and answer[3] == 0], [], seed)

    def test_late_only_by_a_channel_that_had_rested(self):
        seen = 0
        for seed, run in runs(True):
            rested = {}
            for c, answer in run.taken:
                if answer == [3]:
                    rested[c] = True
                if answer[0] == 1 and answer[3] == 0:
                    seen += 1
                    self.assertIn(c, rested, seed)
        self.assertGreater(seen, 20)

    def test_by_each_channel_nothing_older_than_its_mark_and_marks_go_up(self):
        for seed, run in runs(True):
            marks = [0] * (len(run.channels) + 1)
            for c, answer in run.taken:
                if answer[0] == 2:
                    self.assertGreaterEqual(answer[1], marks[c], seed)
                    marks[c] = answer[1]
                if answer[0] == 1:
                    self.assertGreaterEqual(answer[2], marks[c], seed)

    def test_rests_and_wakes_by_turns(self):
        for seed, run in runs(True):
            rests = {}
            for c, answer in run.taken:
                if answer[0] in (3, 4):
                    self.assertEqual(rests.get(c, False), answer[0] == 4, seed)
                    rests[c] = answer[0] == 3
                else:
                    self.assertFalse(rests.get(c, False), seed)


class Told(unittest.TestCase):
    def test_inputs_as_taken(self):
        for seed, run in unfinished_runs(True):
            for p in run.all_places():
                told = run.call(inputs(p))
                self.assertEqual(told, [len(run.coming(p))] + flat(remembered(run, c) for c in run.coming(p)), seed)

    def test_late_by_inputs_only_where_it_ever_rested(self):
        for seed, run in runs(True):
            for p in run.all_places():
                told = run.call(inputs(p))
                for rested, late in zip(told[4::5], told[5::5]):
                    self.assertTrue(late == 0 or rested == 1, seed)
                self.assertEqual(run.call(place(p))[3], sum(told[5::5]), seed)

    def test_without_rest_nobody_rests_and_nothing_is_late(self):
        for seed, run in runs(False):
            for p in run.all_places():
                self.assertEqual((run.call(place(p))[1], run.call(place(p))[3]), (0, 0), seed)

    def test_rests_when_all_its_channels_rest(self):
        for seed, run in unfinished_runs(True):
            for p in run.all_places():
                told = run.call(inputs(p))
                if p not in run.sources:
                    self.assertEqual(run.call(place(p))[1], min(told[3::5]), seed)

    def test_tape_of_those_that_hold_nothing_back(self):
        for seed, run in unfinished_runs(True):
            for p in run.all_places():
                kind, lift = run.places[p - 1]
                if kind != 2 and p not in run.sources:
                    self.assertEqual(run.pairs(tape(p)), [(n, t + lift) for n, t in run.in_time(p)], seed)
                    self.assertEqual(run.call(held(p)), [0], seed)

    def test_tape_and_held_of_those_that_hold_back(self):
        seen = 0
        for seed, run in unfinished_runs(True):
            for p in run.all_places():
                if run.places[p - 1][0] == 2:
                    told = run.call(place(p))
                    here, gone = run.pairs(held(p)), run.pairs(tape(p))
                    seen += min(len(here), len(gone))
                    self.assertEqual(here, sorted([kept for kept in run.in_time(p) if kept[1] >= told[0]],
                                                  key=lambda kept: kept[1]), seed)
                    self.assertEqual(sorted(gone), sorted(kept for kept in run.in_time(p) if kept[1] < told[0]), seed)
                    # All that is handed on was at or above the mark before, so no time comes behind a greater one.
                    self.assertEqual([time for n, time in gone], sorted(time for n, time in gone), seed)
                    self.assertEqual(told[2], len(here), seed)
        self.assertGreater(seen, 100)

    def test_channel_tells_what_is_taken_then(self):
        for seed, run in unfinished_runs(True):
            for c in run.all_channels():
                told = listed(run.call(channel(c)))
                taken = [run.call(take(c)) for item in told]
                self.assertEqual([answer[:3] for answer in taken], told, seed)
                self.assertEqual((run.call(channel(c)), run.call(take(c))), ([0], [-5]), seed)


if __name__ == "__main__":
    unittest.main()
