"""Calls as lists of numbers, and the answers cut apart, a list for each call."""

from restmarks.graphs import answers


def graph(places, channels):
    return [0, len(places), *places, len(channels), *channels]


def emit(p, time):
    return [1, p, time]


def mark(p, time):
    return [2, p, time]


def rest(p):
    return [3, p]


def take(c):
    return [4, c]


def turns(n):
    return [5, n]


def place(p):
    return [6, p]


def held(p):
    return [7, p]


def tape(p):
    return [8, p]


def channel(c):
    return [9, c]


def inputs(p):
    return [10, p]


def through(kind, lift):
    """Source 1 by channel 1 to place 2 of this sort, and from it by channel 2 to place 3."""
    return graph([0, 0, kind, lift, 0, 0], [1, 2, 2, 3])


def joining(kind, lift):
    """Sources 1, 2, 3 by channels 1, 2, 3 to place 4 of this sort; channel 4 from it to place 5."""
    return graph([0, 0, 0, 0, 0, 0, kind, lift, 0, 0], [1, 4, 2, 4, 3, 4, 4, 5])


def joined(calls):
    return [number for call in calls for number in call]


def cut(told):
    """The answers' numbers, cut apart by the counts before them."""
    parts = []
    at = 0
    while at < len(told):
        behind = at + 1 + told[at]
        if told[at] < 1 or behind > len(told):
            raise AssertionError(f"counts don't fit: {told}")
        parts.append(told[at + 1:behind])
        at = behind
    return parts


def ask(*calls):
    """The answer of each call, as a list, of one line of calls."""
    if len(calls) > 60:
        raise AssertionError(f"{len(calls)} calls are more than a line has")
    parts = cut(answers(joined(calls)))
    if len(parts) != len(calls):
        raise AssertionError(f"{len(calls)} calls, {len(parts)} answers")
    return parts


def last(*calls):
    return ask(*calls)[-1]


def drained(c, *calls):
    """What takes from channel c answer behind these calls, until nothing is on it."""
    taken = []
    room = 60 - len(calls)
    for part in ask(*calls, *[take(c)] * room)[len(calls):]:
        if part == [-5]:
            return taken
        taken.append(part)
    raise AssertionError("the channel is not empty behind 60 calls")
