"""The calls on one graph: how they are read from a list of numbers, what they refuse and answer."""

from restmarks.flow import Graph, by_time, fall_to_rest, hand_on, put, take_first, take_round, wake_up, MARK

GRAPH_CALL = 0
EMIT_CALL = 1
MARK_CALL = 2
REST_CALL = 3
TAKE_CALL = 4
TURNS_CALL = 5
PLACE_CALL = 6
HELD_CALL = 7
TAPE_CALL = 8
CHANNEL_CALL = 9
INPUTS_CALL = 10

MOST_PLACES = 8
MOST_CHANNELS = 16
PASSES_ON = 0
LIFTS = 1
GREATEST_SORT = 2
GREATEST_LIFT = 1000
GREATEST_TIME = 1000000
MOST_TURNS = 200

FIRST_PLACES = (0, 0, 0, 0, 0, 0)
FIRST_CHANNELS = (1, 3, 2, 3)


class UnknownCall(ValueError):
    """A call's number that has no call."""


class Line:
    """What one list of calls is about: the graph that is there now."""

    def __init__(self):
        self.graph = Graph(list(FIRST_PLACES), list(FIRST_CHANNELS))


def place_fits(kind, lift):
    if kind > GREATEST_SORT or lift > GREATEST_LIFT:
        return False
    return kind == LIFTS or lift == 0


def places_fit(places):
    size = len(places)
    if size % 2 == 1 or size == 0 or size > 2 * MOST_PLACES:
        return False
    return all([place_fits(places[k], places[k + 1]) for k in range(0, size, 2)])


def ends_fit(origin, target, last):
    return origin >= 1 and origin < target and target <= last


def channels_fit(channels, last):
    size = len(channels)
    if size % 2 == 1 or size > 2 * MOST_CHANNELS:
        return False
    return all([ends_fit(channels[k], channels[k + 1], last) for k in range(0, size, 2)])


def sources_pass_on(places, channels):
    targets = [channels[k] for k in range(1, len(channels), 2)]
    for k in range(0, len(places), 2):
        if k // 2 + 1 not in targets and places[k] != PASSES_ON:
            return False
    return True


def begin_graph(line, places, channels):
    if not places_fit(places):
        return -1
    if not channels_fit(channels, len(places) // 2):
        return -2
    if not sources_pass_on(places, channels):
        return -3
    line.graph = Graph(places, channels)
    return len(channels) // 2


def has_place(graph, p):
    return p >= 1 and p <= len(graph.places)


def has_channel(graph, c):
    return c >= 1 and c <= len(graph.channels)


def is_source(graph, p):
    return has_place(graph, p) and len(graph.places[p - 1].coming) == 0


def time_refusal(graph, p, time):
    """Answers what emit and mark refuse, or 0."""
    if not is_source(graph, p):
        return -1
    if time < graph.places[p - 1].mark:
        return -2
    if time > GREATEST_TIME:
        return -3
    return 0


def emit(graph, p, time):
    refusal = time_refusal(graph, p, time)
    if refusal < 0:
        return refusal
    source = graph.places[p - 1]
    graph.numbered += 1
    wake_up(source)
    hand_on(source, graph.numbered, time)
    return graph.numbered


def give_mark(graph, p, time):
    refusal = time_refusal(graph, p, time)
    if refusal < 0:
        return refusal
    source = graph.places[p - 1]
    wake_up(source)
    source.mark = time
    put(source, (MARK, time))
    return time


def rest(graph, p):
    if not is_source(graph, p):
        return -1
    return fall_to_rest(graph.places[p - 1])


def take(graph, c):
    """Answers a list: the item with what is behind it, or the refusal alone."""
    if not has_channel(graph, c):
        return [-1]
    channel = graph.channels[c - 1]
    if len(channel.line) == 0:
        return [-5]
    return take_first(channel)


def take_turns(graph, n):
    if n > MOST_TURNS:
        return -1
    taken = 0
    for k in range(n):
        taken += take_round(graph)
    return taken


def tell_rows(rows):
    """Answers how many rows there are, then the numbers of each."""
    told = [len(rows)]
    for row in rows:
        told.extend(row)
    return told


def tell_place(place):
    late = sum([channel.late for channel in place.coming])
    return [place.mark, int(place.rests), len(place.held), late]


def tell_input(channel):
    return [channel.number, channel.mark, int(channel.rests), int(channel.rested), channel.late]


def tell_of_place(graph, number, p):
    """Answers what place, held, tape or inputs, whichever has this number, tells of place p."""
    if not has_place(graph, p):
        return [-1]
    place = graph.places[p - 1]
    if number == PLACE_CALL:
        return tell_place(place)
    if number == HELD_CALL:
        return tell_rows(by_time(place.held))
    if number == TAPE_CALL:
        return tell_rows(place.tape)
    return tell_rows([tell_input(channel) for channel in place.coming])


def tell_channel(graph, c):
    if not has_channel(graph, c):
        return [-1]
    return tell_rows(graph.channels[c - 1].line)


def call_length(calls, at):
    """Answers how many numbers the call has that begins at this index."""
    if calls[at] == GRAPH_CALL:
        places = calls[at + 1]
        return 3 + places + calls[at + 2 + places]
    if calls[at] == EMIT_CALL or calls[at] == MARK_CALL:
        return 3
    return 2


def answer_call(line, call):
    """Answers the list of numbers that one call, cut out of the list, answers."""
    if call[0] == GRAPH_CALL:
        behind = 2 + call[1]
        return [begin_graph(line, call[2:behind], call[behind + 1:])]
    if call[0] == EMIT_CALL:
        return [emit(line.graph, call[1], call[2])]
    if call[0] == MARK_CALL:
        return [give_mark(line.graph, call[1], call[2])]
    if call[0] == REST_CALL:
        return [rest(line.graph, call[1])]
    if call[0] == TAKE_CALL:
        return take(line.graph, call[1])
    if call[0] == TURNS_CALL:
        return [take_turns(line.graph, call[1])]
    if call[0] == CHANNEL_CALL:
        return tell_channel(line.graph, call[1])
    if call[0] in (PLACE_CALL, HELD_CALL, TAPE_CALL, INPUTS_CALL):
        return tell_of_place(line.graph, call[0], call[1])
    number = call[0]
    raise UnknownCall(f"no call has the number {number}")


def answers(calls):
    """Answers, for each call in order, how many numbers it answers, and these."""
    line = Line()
    told = []
    at = 0
    while at < len(calls):
        behind = at + call_length(calls, at)
        answer = answer_call(line, calls[at:behind])
        told.append(len(answer))
        told.extend(answer)
        at = behind
    return told
