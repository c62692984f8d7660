"""The interface: lists of calls in, lists of numbers out."""

import contextlib
import io
import unittest

import restmarks.graphs
from restmarks.graphs import answers
from tests.helper import (
    ask, channel, emit, graph, held, inputs, joined, joining, last, mark, place, rest, take, tape, turns,
)

MOST = 4294967295

MIXED = (
    emit(1, 5), mark(1, 5), rest(2), take(1), take(2), take(1), take(1),
    graph([0, 0, 2, 0, 1, 3], [1, 2, 2, 3]), emit(1, 4), mark(1, 6), turns(2), turns(201),
    graph([], []), graph([0, 0], [1]), graph([2, 0], []), emit(1, 6), rest(1), rest(1),
    place(2), held(2), tape(2), channel(1), inputs(2), place(4), held(0), tape(4), channel(3), inputs(0),
)

# All eleven calls, sixty of them, each with what it answers.
SIXTY = (
    (place(3), [0, 0, 0, 0]), (inputs(3), [2, 1, 0, 0, 0, 0, 2, 0, 0, 0, 0]), (emit(2, 8), [1]), (rest(1), [1]),
    (channel(2), [1, 1, 1, 8]), (turns(1), [2]), (tape(3), [1, 1, 8]), (held(3), [0]), (place(1), [0, 1, 0, 0]),
    (graph([0, 0, 3, 0], [1, 2]), [-1]), (inputs(3), [2, 1, 0, 1, 1, 0, 2, 0, 0, 0, 0]),

    (joining(2, 0), [4]), (place(5), [0, 0, 0, 0]), (tape(2), [0]), (emit(1, 9), [1]), (emit(1, 4), [2]),
    (emit(2, 4), [3]), (mark(3, 6), [6]), (rest(3), [1]), (rest(3), [0]), (channel(3), [2, 2, 6, 3]),
    (take(2), [1, 3, 4, 1]), (turns(2), [4]), (held(4), [3, 3, 4, 2, 4, 1, 9]), (place(4), [0, 0, 3, 0]),
    (inputs(4), [3, 1, 0, 0, 0, 0, 2, 0, 0, 0, 0, 3, 6, 1, 1, 0]), (mark(1, 5), [5]), (rest(2), [1]), (take(1), [2, 5]),
    (take(4), [-5]), (take(2), [3]), (channel(4), [3, 1, 3, 4, 1, 2, 4, 2, 5]), (place(4), [5, 0, 1, 0]),
    (held(4), [1, 1, 9]), (tape(4), [2, 3, 4, 2, 4]), (take(4), [1, 3, 4, 1]), (turns(200), [2]), (tape(5), [2, 3, 4, 2, 4]),
    (place(5), [5, 0, 0, 0]), (inputs(5), [1, 4, 5, 0, 0, 0]), (emit(2, 3), [4]), (channel(2), [2, 4, 1, 4, 3]),
    (take(2), [4]), (take(2), [1, 4, 3, 0]), (place(4), [5, 0, 1, 1]), (tape(2), [2, 3, 4, 4, 3]),
    (inputs(4), [3, 1, 5, 0, 0, 0, 2, 0, 0, 1, 1, 3, 6, 1, 1, 0]), (rest(1), [1]), (rest(2), [1]), (turns(1), [3]),
    (place(4), [5, 1, 1, 1]), (inputs(5), [1, 4, 5, 1, 1, 0]), (emit(4, 9), [-1]), (mark(1, 4), [-2]), (turns(201), [-1]),
    (graph([0, 0, 1, 7], [1, 2]), [1]), (emit(1, 1), [1]), (take(1), [1, 1, 1, 1]), (tape(2), [1, 1, 8]),
    (place(2), [0, 0, 0, 0]),
)


class Sealed(list):
    """A list that refuses to be changed."""

    def refuse(self, *given, **named):
        raise AssertionError("what is handed in was to be changed")

    append = clear = extend = insert = pop = remove = reverse = sort = refuse
    __setitem__ = __delitem__ = __iadd__ = __imul__ = refuse


class Form(unittest.TestCase):
    def test_a_count_before_each_answer(self):
        self.assertEqual(answers([1, 1, 5, 2, 1, 7, 3, 2, 4, 1, 4, 1, 4, 2, 4, 2, 5, 3]),
                         [1, 1, 1, 7, 1, 1, 4, 1, 1, 5, 1, 2, 2, 7, 1, 3, 1, -5, 1, 0])

    def test_graph_and_a_call_behind_it(self):
        self.assertEqual(answers([0, 4, 0, 0, 0, 0, 2, 1, 2, 1, 1, 9, 4, 1]), [1, 1, 1, 1, 4, 1, 1, 9, 1])
        self.assertEqual(answers([0, 2, 0, 0, 0, 3, 1]), [1, 0, 1, 1])

    def test_refused_graphs_are_read_to_their_end(self):
        longest = graph([MOST] * 20, [MOST] * 40)
        self.assertEqual(ask(longest, emit(1, 3)), [[-1], [1]])
        self.assertEqual(ask(graph([], []), emit(1, 3)), [[-1], [1]])
        self.assertEqual(ask(graph([], [1, 2, 3]), emit(1, 3)), [[-1], [1]])
        self.assertEqual(ask(graph([0, 0], [MOST] * 40), emit(1, 3)), [[-2], [1]])
        self.assertEqual(ask(graph([5], [1]), emit(1, 3)), [[-1], [1]])

    def test_one_call(self):
        self.assertEqual(answers([5, 0]), [1, 0])

    def test_mixed(self):
        self.assertEqual(ask(*MIXED), [
            [1], [5], [1], [1, 1, 5, 1], [3], [2, 5], [-5],
            [2], [1], [6], [3], [-1],
            [-1], [-2], [-3], [2], [1], [0],
            [6, 0, 0, 0], [0], [1, 1, 4], [2, 1, 2, 6, 3], [1, 1, 6, 0, 0, 0], [-1], [-1], [-1], [-1], [-1],
        ])

    def test_whole_numbers_alone(self):
        for calls in (MIXED, [call for call, answer in SIXTY]):
            told = answers(joined(calls))
            self.assertIs(type(told), list)
            self.assertEqual({type(number) for number in told}, {int})

    def test_below_0_is_a_refusal_alone(self):
        for part in ask(*[call for call, answer in SIXTY]) + ask(*MIXED):
            self.assertTrue(len(part) == 1 or min(part) >= 0, part)


class AllEleven(unittest.TestCase):
    CALLS = [call for call, answer in SIXTY]
    ANSWERS = [answer for call, answer in SIXTY]

    def test_sixty_calls_of_every_number(self):
        self.assertEqual(len(self.CALLS), 60)
        self.assertEqual({call[0] for call in self.CALLS}, set(range(11)))

    def test_answers(self):
        for call, part, answer in zip(self.CALLS, ask(*self.CALLS), self.ANSWERS):
            self.assertEqual(part, answer, call)

    def test_number_by_number(self):
        self.assertEqual(answers(joined(self.CALLS)), joined([len(answer), *answer] for answer in self.ANSWERS))

    def test_list_handed_in_is_the_same_and_a_second_time_answers_the_same(self):
        calls = joined(self.CALLS)
        first = answers(calls)
        self.assertEqual(calls, joined(self.CALLS))
        self.assertEqual(answers(calls), first)

    def test_not_changed_for_a_while_either(self):
        self.assertEqual(answers(Sealed(joined(self.CALLS))), answers(joined(self.CALLS)))


class Sizes(unittest.TestCase):
    def test_sixty_calls(self):
        calls = [emit(1, t) for t in range(20)] + [mark(2, t) for t in range(20)] + [take(1), take(2)] * 10
        parts = ask(*calls)
        self.assertEqual(parts[:20], [[k + 1] for k in range(20)])
        self.assertEqual(parts[20:40], [[t] for t in range(20)])
        self.assertEqual(parts[40::2], [[1, t + 1, t, 1] for t in range(10)])
        self.assertEqual(parts[41::2], [[2, t] for t in range(10)])

    def test_longest_list(self):
        calls = [graph([0] * 20, [0] * 40)] * 60
        self.assertEqual(len(joined(calls)), 3780)
        self.assertEqual(ask(*calls), [[-1]] * 60)

    def test_sixty_times_200_turns(self):
        wide = graph([0, 0] * 8, [1, 2] * 2 + [2, 3] * 2 + [3, 4] * 2 + [4, 5] * 2 + [5, 6] * 2 + [6, 7] * 3 + [7, 8] * 3)
        calls = [wide] + [emit(1, 1)] * 20 + [turns(200)] * 39
        # Of each element come 2, 4, 8, 16, 32 and, of three channels each, 96 and 288.
        self.assertEqual(sum(part[0] for part in ask(*calls)[21:]), 20 * (2 + 4 + 8 + 16 + 32 + 96 + 288))

    def test_long_answers(self):
        # As above, but place 8 holds back; 1920 of the 5760 come by each of its three channels.
        wide = graph([0, 0] * 7 + [2, 0], [1, 2] * 2 + [2, 3] * 2 + [3, 4] * 2 + [4, 5] * 2 + [5, 6] * 2 + [6, 7] * 3 + [7, 8] * 3)
        calls = [wide] + [emit(1, 20 - k) for k in range(20)] + [turns(200)] * 12
        kept = [number for k in range(20) for number in [20 - k, k + 1] * 288]
        self.assertEqual(ask(*calls, held(8), place(8), tape(8))[-3:], [[5760] + kept, [0, 0, 5760, 0], [0]])
        calls = calls + [mark(1, 21), turns(200)]
        self.assertEqual(ask(*calls, held(8), place(8), tape(8))[-3:], [[0], [21, 0, 0, 0], [5760] + kept])
        self.assertEqual(ask(*calls, tape(7), tape(1))[-2][0], 1920)

    def test_greatest_numbers(self):
        self.assertEqual(ask(emit(MOST, MOST), mark(MOST, MOST), rest(MOST), take(MOST), turns(MOST)), [[-1]] * 5)
        self.assertEqual(ask(place(MOST), held(MOST), tape(MOST), channel(MOST), inputs(MOST)), [[-1]] * 5)
        self.assertEqual(ask(emit(1, MOST), mark(2, MOST)), [[-3], [-3]])
        self.assertEqual(last(graph([0, MOST], [])), [-1])
        self.assertEqual(last(graph([MOST, 0], [])), [-1])
        self.assertEqual(last(graph([0, 0], [MOST, MOST])), [-2])


class NothingElse(unittest.TestCase):
    def test_what_is_handed_in_is_not_changed(self):
        calls = joined(MIXED)
        before = list(calls)
        answers(calls)
        self.assertEqual(calls, before)

    def test_what_is_given_back_is_new(self):
        calls = joined(MIXED)
        told = answers(calls)
        kept = list(told)
        told.clear()
        self.assertEqual(answers(calls), kept)

    def test_nothing_is_kept(self):
        calls = joined(MIXED)
        first = answers(calls)
        answers(joined([graph([0, 0], []), rest(1)]))
        self.assertEqual(answers(calls), first)
        self.assertEqual(answers(calls), first)

    def test_nothing_is_printed(self):
        with contextlib.redirect_stdout(io.StringIO()) as out, contextlib.redirect_stderr(io.StringIO()) as err:
            answers(joined(MIXED))
        self.assertEqual(out.getvalue() + err.getvalue(), "")

    def test_number_without_a_call(self):
        for number in (11, MOST):
            with self.assertRaisesRegex(restmarks.graphs.UnknownCall, f" {number}$"):
                answers([number, 1])


if __name__ == "__main__":
    unittest.main()
