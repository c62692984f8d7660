"""Calls as lists of numbers, and the answers cut apart, a list for each call."""

from restmarks.graphs import answers


def graph(places, channels):
    return [0, len(places), *places, len(channels), *channels]


def emit(p, time):
    return [1, p, time]


def mark(p, time):
    return [2, p, time]


def rest(p):
    return [3, p]


def take(c):
    return [4, c]


def turns(n):
    return [5, n]


def joined(calls):
    return [number for call in calls for number in call]


def cut(told):
    """The answers' numbers, cut apart by the counts before them."""
    parts = []
    at = 0
    while at < len(told):
        behind = at + 1 + told[at]
        if told[at] < 1 or behind > len(told):
            raise AssertionError(f"counts don't fit: {told}")
        parts.append(told[at + 1:behind])
        at = behind
    return parts


def ask(*calls):
    """The answer of each call, as a list, of one line of calls."""
    parts = cut(answers(joined(calls)))
    if len(parts) != len(calls):
        raise AssertionError(f"{len(calls)} calls, {len(parts)} answers")
    return parts


def last(*calls):
    return ask(*calls)[-1]


def drained(c, *calls):
    """What takes from channel c answer behind these calls, until nothing is on it."""
    taken = []
    room = 60 - len(calls)
    for part in ask(*calls, *[take(c)] * room)[len(calls):]:
        if part == [-5]:
            return taken
        taken.append(part)
    raise AssertionError("the channel is not empty behind 60 calls")
