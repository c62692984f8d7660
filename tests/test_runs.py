"""What holds of all graphs and orders, over many that are drawn with fixed seeds."""

import random
import unittest

from restmarks.flow import Graph
from restmarks.graphs import Line, begin_graph, emit, give_mark, rest, take


def drawn_graph(draw):
    """Places and channels that graph takes, every place but the last with a channel that leaves it."""
    size = draw.randint(2, 8)
    sources = draw.randint(1, size - 1)
    channels = []
    for p in range(1, size):
        channels.append((p, draw.randint(max(p, sources) + 1, size)))
    while len(channels) < 16 and draw.random() < 0.6:
        p = draw.randint(1, size - 1)
        channels.append((p, draw.randint(p + 1, size)))
    draw.shuffle(channels)
    targets = [target for origin, target in channels]
    places = [(0, 0)] * size
    for p in targets:
        if places[p - 1] == (0, 0):
            places[p - 1] = draw.choice([(0, 0), (1, draw.randint(0, 9)), (2, 0)])
    return places, channels


def flat(pairs):
    return [number for pair in pairs for number in pair]


class Run:
    """A drawn graph and what was taken in it, as (channel, answer) pairs.

    It goes by the functions behind the calls, as one line has too few calls for a long run."""

    def __init__(self, draw, with_rest):
        self.draw = draw
        self.with_rest = with_rest
        self.places, self.channels = drawn_graph(draw)
        self.graph = Graph(flat(self.places), flat(self.channels))
        self.marks = [0] * (len(self.places) + 1)
        self.taken = []
        targets = [target for origin, target in self.channels]
        self.sources = [p for p in range(1, len(self.places) + 1) if p not in targets]

    def speak(self):
        p = self.draw.choice(self.sources)
        time = self.marks[p] + self.draw.randint(0, 4)
        what = self.draw.randint(0, 3 if self.with_rest else 2)
        if what == 3:
            rest(self.graph, p)
        elif what == 2:
            self.marks[p] = time
            give_mark(self.graph, p, time)
        else:
            emit(self.graph, p, time)

    def take_some(self, most):
        for k in range(self.draw.randint(0, most)):
            c = self.draw.randint(1, len(self.channels))
            answer = take(self.graph, c)
            if answer != [-5]:
                self.taken.append((c, answer))

    def take_all(self):
        while any(channel.line for channel in self.graph.channels):
            self.take_some(20)


def known_marks(run):
    """Of each channel the greatest mark that can be known by it: the least over all ways to it."""
    marks = list(run.marks)
    sent = {}
    for p in range(1, len(run.places) + 1):
        coming = [sent[k] for k, ends in enumerate(run.channels) if ends[1] == p]
        if coming:
            marks[p] = min(coming)
        for k, ends in enumerate(run.channels):
            if ends[0] == p:
                sent[k] = marks[p] + run.places[p - 1][1] if marks[p] > 0 else 0
    return [sent[k] for k in range(len(run.channels))]


def runs(with_rest):
    for seed in range(300):
        run = Run(random.Random(seed), with_rest)
        for k in range(30):
            run.speak()
            run.take_some(6)
        run.take_all()
        yield seed, run


class AnyOrder(unittest.TestCase):
    def test_drawn_graphs_are_such_as_graph_takes(self):
        for seed, run in runs(False):
            self.assertEqual(begin_graph(Line(), flat(run.places), flat(run.channels)), len(run.channels), seed)

    def test_marks_are_the_best_that_can_be_known(self):
        for seed, run in runs(False):
            greatest = [0] * len(run.channels)
            for c, answer in run.taken:
                if answer[0] == 2:
                    greatest[c - 1] = max(greatest[c - 1], answer[1])
            self.assertEqual(greatest, known_marks(run), seed)

    def test_without_rest_nothing_is_late(self):
        for seed, run in runs(False):
            self.assertEqual([answer for c, answer in run.taken if answer[0] == 1 and answer[3] == 0], [], seed)

    def test_late_only_by_a_channel_that_had_rested(self):
        seen = 0
        for seed, run in runs(True):
            rested = {}
            for c, answer in run.taken:
                if answer == [3]:
                    rested[c] = True
                if answer[0] == 1 and answer[3] == 0:
                    seen += 1
                    self.assertIn(c, rested, seed)
        self.assertGreater(seen, 20)

    def test_by_each_channel_nothing_older_than_its_mark_and_marks_go_up(self):
        for seed, run in runs(True):
            marks = [0] * (len(run.channels) + 1)
            for c, answer in run.taken:
                if answer[0] == 2:
                    self.assertGreaterEqual(answer[1], marks[c], seed)
                    marks[c] = answer[1]
                if answer[0] == 1:
                    self.assertGreaterEqual(answer[2], marks[c], seed)

    def test_rests_and_wakes_by_turns(self):
        for seed, run in runs(True):
            rests = {}
            for c, answer in run.taken:
                if answer[0] in (3, 4):
                    self.assertEqual(rests.get(c, False), answer[0] == 4, seed)
                    rests[c] = answer[0] == 3
                else:
                    self.assertFalse(rests.get(c, False), seed)


if __name__ == "__main__":
    unittest.main()
