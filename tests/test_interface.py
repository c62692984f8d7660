"""The interface: lists of calls in, lists of numbers out."""

import contextlib
import io
import unittest

import restmarks.graphs
from restmarks.graphs import answers
from tests.helper import ask, emit, graph, joined, last, mark, rest, take, turns

MOST = 4294967295

MIXED = (
    emit(1, 5), mark(1, 5), rest(2), take(1), take(2), take(1), take(1),
    graph([0, 0, 2, 0, 1, 3], [1, 2, 2, 3]), emit(1, 4), mark(1, 6), turns(2), turns(201),
    graph([], []), graph([0, 0], [1]), graph([2, 0], []), emit(1, 6), rest(1), rest(1),
)


class Form(unittest.TestCase):
    def test_a_count_before_each_answer(self):
        self.assertEqual(answers([1, 1, 5, 2, 1, 7, 3, 2, 4, 1, 4, 1, 4, 2, 4, 2, 5, 3]),
                         [1, 1, 1, 7, 1, 1, 4, 1, 1, 5, 1, 2, 2, 7, 1, 3, 1, -5, 1, 0])

    def test_graph_and_a_call_behind_it(self):
        self.assertEqual(answers([0, 4, 0, 0, 0, 0, 2, 1, 2, 1, 1, 9, 4, 1]), [1, 1, 1, 1, 4, 1, 1, 9, 1])
        self.assertEqual(answers([0, 2, 0, 0, 0, 3, 1]), [1, 0, 1, 1])

    def test_refused_graphs_are_read_to_their_end(self):
        longest = graph([MOST] * 20, [MOST] * 40)
        self.assertEqual(ask(longest, emit(1, 3)), [[-1], [1]])
        self.assertEqual(ask(graph([], []), emit(1, 3)), [[-1], [1]])
        self.assertEqual(ask(graph([], [1, 2, 3]), emit(1, 3)), [[-1], [1]])
        self.assertEqual(ask(graph([0, 0], [MOST] * 40), emit(1, 3)), [[-2], [1]])
        self.assertEqual(ask(graph([5], [1]), emit(1, 3)), [[-1], [1]])

    def test_one_call(self):
        self.assertEqual(answers([5, 0]), [1, 0])

    def test_mixed(self):
        self.assertEqual(ask(*MIXED), [
            [1], [5], [1], [1, 1, 5, 1], [3], [2, 5], [-5],
            [2], [1], [6], [3], [-1],
            [-1], [-2], [-3], [2], [1], [0],
        ])

    def test_whole_numbers_alone(self):
        told = answers(joined(MIXED))
        self.assertIs(type(told), list)
        self.assertEqual({type(number) for number in told}, {int})


class Sizes(unittest.TestCase):
    def test_sixty_calls(self):
        calls = [emit(1, t) for t in range(20)] + [mark(2, t) for t in range(20)] + [take(1), take(2)] * 10
        parts = ask(*calls)
        self.assertEqual(parts[:20], [[k + 1] for k in range(20)])
        self.assertEqual(parts[20:40], [[t] for t in range(20)])
        self.assertEqual(parts[40::2], [[1, t + 1, t, 1] for t in range(10)])
        self.assertEqual(parts[41::2], [[2, t] for t in range(10)])

    def test_longest_list(self):
        calls = [graph([0] * 20, [0] * 40)] * 60
        self.assertEqual(len(joined(calls)), 3780)
        self.assertEqual(ask(*calls), [[-1]] * 60)

    def test_sixty_times_200_turns(self):
        wide = graph([0, 0] * 8, [1, 2] * 2 + [2, 3] * 2 + [3, 4] * 2 + [4, 5] * 2 + [5, 6] * 2 + [6, 7] * 3 + [7, 8] * 3)
        calls = [wide] + [emit(1, 1)] * 20 + [turns(200)] * 39
        # Of each element come 2, 4, 8, 16, 32 and, of three channels each, 96 and 288.
        self.assertEqual(sum(part[0] for part in ask(*calls)[21:]), 20 * (2 + 4 + 8 + 16 + 32 + 96 + 288))

    def test_greatest_numbers(self):
        self.assertEqual(ask(emit(MOST, MOST), mark(MOST, MOST), rest(MOST), take(MOST), turns(MOST)), [[-1]] * 5)
        self.assertEqual(ask(emit(1, MOST), mark(2, MOST)), [[-3], [-3]])
        self.assertEqual(last(graph([0, MOST], [])), [-1])
        self.assertEqual(last(graph([MOST, 0], [])), [-1])
        self.assertEqual(last(graph([0, 0], [MOST, MOST])), [-2])


class NothingElse(unittest.TestCase):
    def test_what_is_handed_in_is_not_changed(self):
        calls = joined(MIXED)
        before = list(calls)
        answers(calls)
        self.assertEqual(calls, before)

    def test_what_is_given_back_is_new(self):
        calls = joined(MIXED)
        told = answers(calls)
        kept = list(told)
        told.clear()
        self.assertEqual(answers(calls), kept)

    def test_nothing_is_kept(self):
        calls = joined(MIXED)
        first = answers(calls)
        answers(joined([graph([0, 0], []), rest(1)]))
        self.assertEqual(answers(calls), first)
        self.assertEqual(answers(calls), first)

    def test_nothing_is_printed(self):
        with contextlib.redirect_stdout(io.StringIO()) as out, contextlib.redirect_stderr(io.StringIO()) as err:
            answers(joined(MIXED))
        self.assertEqual(out.getvalue() + err.getvalue(), "")

    def test_number_without_a_call(self):
        with self.assertRaises(restmarks.graphs.UnknownCall):
            answers([11, 1])


if __name__ == "__main__":
    unittest.main()
