"""Places and channels, and what a place does with what it takes from a channel."""

ELEMENT = 1
MARK = 2
RESTS = 3
WAKES = 4

HOLDS_BACK = 2


class Place:
    """A place: its mark, what it holds (number, time), what it handed on (number, time), its channels."""

    def __init__(self, kind, lift):
        self.kind = kind
        self.lift = lift
        self.mark = 0
        self.rests = False
        self.held = []
        self.tape = []
        self.coming = []
        self.leaving = []


class Channel:
    """A channel: its number, the place it goes to, what is on it, and what that place remembers of it.

    rested stays True once that it rests was taken; late is how many came late by it."""

    def __init__(self, number, target):
        self.number = number
        self.target = target
        self.line = []
        self.mark = 0
        self.rests = False
        self.rested = False
        self.late = 0


class Graph:
    """Places and channels as graph tells them, two numbers each, and how many numbers were given out."""

    def __init__(self, places, channels):
        self.places = [Place(places[k], places[k + 1]) for k in range(0, len(places), 2)]
        self.channels = []
        self.numbered = 0
        for k in range(0, len(channels), 2):
            self.connect(self.places[channels[k] - 1], self.places[channels[k + 1] - 1])

    def connect(self, origin, target):
        channel = Channel(len(self.channels) + 1, target)
        origin.leaving.append(channel)
        target.coming.append(channel)
        self.channels.append(channel)


def put(place, item):
    for channel in place.leaving:
        channel.line.append(item)


def hand_on(place, number, time):
    # Only a place that lifts has a lift other than 0, so no sort is asked for here.
    lifted = time + place.lift
    place.tape.append((number, lifted))
    put(place, (ELEMENT, number, lifted))


def fall_to_rest(place):
    """Answers 1 if the place rests by this, 0 if it rested."""
    if place.rests:
        return 0
    place.rests = True
    put(place, (RESTS,))
    return 1


def wake_up(place):
    if place.rests:
        place.rests = False
        put(place, (WAKES,))


def time_of(kept):
    return kept[1]


def by_time(held):
    # What a place holds is in the order of coming, and sorted keeps that order among equal times.
    return sorted(held, key=time_of)


def go_up(place, mark):
    place.mark = mark
    due = [kept for kept in place.held if kept[1] < mark]
    place.held = [kept for kept in place.held if kept[1] >= mark]
    for kept in by_time(due):
        hand_on(place, kept[0], kept[1])
    # The mark comes last: behind it, what was due would be late further on.
    put(place, (MARK, mark + place.lift))


def look_at_channels(place):
    marks = [channel.mark for channel in place.coming if not channel.rests]
    if len(marks) == 0:
        fall_to_rest(place)
    else:
        wake_up(place)
        least = min(marks)
        if least > place.mark:
            go_up(place, least)


def take_element(channel, number, time):
    """Answers 0 if the element is late, else 1."""
    place = channel.target
    if time < place.mark:
        channel.late += 1
        return 0
    if place.kind == HOLDS_BACK:
        place.held.append((number, time))
    else:
        hand_on(place, number, time)
    return 1


def take_first(channel):
    """Takes what is first on a channel that is not empty; answers the item, behind an element also 0 or 1."""
    item = channel.line.pop(0)
    if item[0] == ELEMENT:
        return list(item) + [take_element(channel, item[1], item[2])]
    if item[0] == MARK:
        channel.mark = max(channel.mark, item[1])
    else:
        channel.rests = item[0] == RESTS
        channel.rested = channel.rested or channel.rests
    look_at_channels(channel.target)
    return list(item)


def take_round(graph):
    """Takes the first of each channel in order, where there is one then; answers how many were taken."""
    taken = 0
    for channel in graph.channels:
        if len(channel.line) > 0:
            take_first(channel)
            taken += 1
    return taken
