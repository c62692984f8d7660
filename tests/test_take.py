"""Point 3: take and turns."""

import unittest

from tests.helper import ask, emit, graph, last, mark, rest, take, turns

MOST = 4294967295
CHAIN = graph([0, 0] * 4, [1, 2, 2, 3, 3, 4])
# The same chain, but each channel stands before the one that fills it.
CHAIN_BACKWARDS = graph([0, 0] * 4, [3, 4, 2, 3, 1, 2])


class Take(unittest.TestCase):
    def test_no_such_channel(self):
        for c in (0, 3, 17, MOST):
            self.assertEqual(last(take(c)), [-1])
        self.assertEqual(last(graph([0, 0], []), take(1)), [-1])
        self.assertEqual(last(graph([0, 0] * 2, [1, 2] * 16), take(17)), [-1])

    def test_empty(self):
        self.assertEqual(ask(take(1), take(2)), [[-5], [-5]])
        self.assertEqual(ask(emit(1, 3), take(2), take(1), take(1))[1:], [[-5], [1, 1, 3, 1], [-5]])
        self.assertEqual(last(graph([0, 0] * 2, [1, 2] * 16), take(16)), [-5])

    def test_each_item(self):
        calls = [emit(1, 3), mark(1, 4), rest(1), mark(1, 4), take(1), take(1), take(1), take(1), take(1)]
        self.assertEqual(ask(*calls)[4:], [[1, 1, 3, 1], [2, 4], [3], [4], [2, 4]])

    def test_refused_leaves_all_as_it_was(self):
        self.assertEqual(ask(emit(1, 3), take(0), take(2), take(3), take(1))[-1], [1, 1, 3, 1])

    def test_first_put_is_first_taken(self):
        self.assertEqual(ask(emit(1, 9), emit(1, 2), emit(1, 5), take(1), take(1), take(1))[3:],
                         [[1, 1, 9, 1], [1, 2, 2, 1], [1, 3, 5, 1]])

    def late(self, time, others=()):
        """Place 3 has mark 10 by channel 1 while channel 2 rests; then an element comes by channel 2."""
        calls = [mark(1, 10), rest(2), take(2), take(1), emit(2, time), take(2), take(2), *others]
        return ask(*calls)[6:]

    def test_around_the_mark(self):
        self.assertEqual(self.late(9), [[1, 1, 9, 0]])
        self.assertEqual(self.late(10), [[1, 1, 10, 1]])
        self.assertEqual(self.late(11), [[1, 1, 11, 1]])
        self.assertEqual(self.late(0), [[1, 1, 0, 0]])

    def test_mark_stays_when_the_channel_wakes(self):
        # Channel 2's mark is 0 and it rests no more, but place 3's mark never goes back.
        self.assertEqual(self.late(9, [emit(2, 9), take(2), emit(2, 10), take(2)])[2::2], [[1, 2, 9, 0], [1, 3, 10, 1]])


class LateGoesNowhere(unittest.TestCase):
    def run_late(self, kind, lift):
        # 1 and 2 to 3, 3 to 4; channel 3 leaves place 3.
        places = [0, 0, 0, 0, kind, lift, 0, 0]
        calls = [graph(places, [1, 3, 2, 3, 3, 4]), mark(1, 10), rest(2), take(2), take(1), take(3)]
        late = [emit(2, 9), take(2), take(2), take(3), mark(1, 50), mark(2, 50), take(1), take(2), take(3), take(3)]
        return ask(*calls, *late)

    def test_each_sort(self):
        for kind, lift in ((0, 0), (1, 0), (1, 7), (2, 0)):
            parts = self.run_late(kind, lift)
            self.assertEqual(parts[5], [2, 10 + lift])
            self.assertEqual(parts[8:10], [[1, 1, 9, 0], [-5]])
            self.assertEqual(parts[-2:], [[2, 50 + lift], [-5]])


class Turns(unittest.TestCase):
    def test_limits(self):
        self.assertEqual(last(turns(0)), [0])
        self.assertEqual(last(turns(200)), [0])
        self.assertEqual(last(turns(201)), [-1])
        self.assertEqual(last(turns(MOST)), [-1])

    def test_none_takes_nothing(self):
        self.assertEqual(ask(emit(1, 1), turns(0), take(1)), [[1], [0], [1, 1, 1, 1]])

    def test_refused_takes_nothing(self):
        self.assertEqual(ask(emit(1, 1), turns(201), take(1)), [[1], [-1], [1, 1, 1, 1]])

    def test_one_from_each_channel_a_round(self):
        calls = [emit(1, 1), emit(1, 2), emit(1, 3), emit(2, 4), turns(1), turns(1), take(1), take(1), turns(1)]
        self.assertEqual(ask(*calls)[4:], [[2], [1], [1, 3, 3, 1], [-5], [0]])

    def test_what_comes_in_the_round_is_taken_in_it(self):
        self.assertEqual(ask(CHAIN, emit(1, 1), turns(1), turns(1)), [[3], [1], [3], [0]])

    def test_what_comes_behind_its_turn_waits(self):
        self.assertEqual(ask(CHAIN_BACKWARDS, emit(1, 1), turns(1), turns(1), turns(1), turns(1))[2:],
                         [[1], [1], [1], [0]])
        self.assertEqual(ask(CHAIN_BACKWARDS, emit(1, 1), emit(1, 2), turns(2), take(3), take(2), take(1))[3:],
                         [[3], [-5], [1, 2, 2, 1], [1, 1, 1, 1]])

    def test_several_rounds(self):
        many = [emit(1, t) for t in range(20)]
        self.assertEqual(ask(*many, turns(7), turns(12), turns(200), turns(200))[20:], [[7], [12], [1], [0]])
        self.assertEqual(ask(CHAIN, *many, turns(7), turns(200))[21:], [[21], [39]])
        self.assertEqual(ask(CHAIN_BACKWARDS, *many, turns(7), turns(200))[21:], [[18], [42]])

    def test_all_items_count(self):
        calls = [emit(1, 3), mark(1, 4), rest(1), mark(1, 4), rest(2), turns(200)]
        self.assertEqual(last(*calls), [6])

    def test_late_ones_count(self):
        calls = [mark(1, 10), rest(2), turns(200), emit(2, 1), emit(2, 10), turns(200)]
        self.assertEqual(ask(*calls)[-1], [3])

    def test_more_than_200_rounds_worth(self):
        # 24 on each of 3 channels, 72 on each of 4, so 288 on channel 8, of which 200 rounds take 200.
        fan = graph([0, 0] * 4, [1, 2] * 3 + [2, 3] * 4 + [3, 4])
        many = [emit(1, 1)] * 24
        self.assertEqual(ask(fan, *many, turns(200), turns(87), turns(1), turns(1))[25:], [[72 + 288 + 200], [87], [1], [0]])

    def test_taken_like_take(self):
        made = [mark(1, 10), rest(2), emit(1, 12)]
        by_turns = ask(*made, turns(1), emit(2, 9), take(2), take(2))
        by_take = ask(*made, take(1), take(2), emit(2, 9), take(2), take(2))
        self.assertEqual(by_turns[-2:], [[4], [1, 2, 9, 0]])
        self.assertEqual(by_take[-2:], by_turns[-2:])


if __name__ == "__main__":
    unittest.main()
