"""Flows, and the books that keep them (points 141 to 152)."""

from onepolicy.bindings import REST, end_for, give_back, take_end
from onepolicy.circle import between
from onepolicy.fields import first_wrong, whole_within
from onepolicy.moving import moved_failure
from onepolicy.talks import END, START, WIDE, begun, is_bare_syn, tracked
from onepolicy.ways import moved, turned, way_of

# Where the fields of a flow stand; the ways first and back stand by their sides behind the number.
NUMBER = 0
FIRST = 1
BACK = 2
STATE = 3
DUE = 4
VERSION = 5
TIMES = 6
HOLD = 7
TALK = 8

# Where the time of a kind and a state stands among the times.
TIME_PLACES = {
    ("tcp", "asked"): 1, ("tcp", "answered"): 2, ("tcp", "open"): 3, ("tcp", "closing"): 4, ("tcp", "over"): 5,
    ("udp", "asked"): 6, ("udp", "open"): 7, ("echo", "asked"): 8, ("echo", "open"): 9,
}


def fault_times(times):
    """Return the fault of a value of any kind that is no times, or None."""
    if not isinstance(times, tuple) or len(times) != 10 or times[0] != "times":
        return "times"
    if not all([whole_within(time, 1, 86400) for time in times[1:]]):
        return "times"
    return None


def new_book(ground, part, moment):
    """Return the new book of a worker; the moment is that of a fall, or None."""
    return {
        "ground": ground,
        "part": part,
        "quiet": 0 if moment is None else moment + REST,
        "next": part + ground[3],
        "flows": {},
        "ways": {},
        "bindings": {},
        "resting": {},
    }


def _copied(book):
    """Return a book with dicts of its own."""
    own = {**book}
    for name in ("flows", "ways", "bindings", "resting"):
        rows = book[name]
        own[name] = {key: rows[key] for key in rows}
    return own


def swept(book, moment):
    """Return the book in which all that is over at a moment has ended."""
    book = _copied(book)
    flows = book["flows"]
    dues = sorted([(flows[number][DUE], number) for number in flows if flows[number][DUE] <= moment])
    for due, number in dues:
        _end(book, due, number)
    resting = book["resting"]
    book["resting"] = {end: resting[end] for end in resting if resting[end] > moment}
    return book


def _end(book, moment, number):
    """End a flow at a moment; this changes the book."""
    flow = book["flows"].pop(number)
    del book["ways"][flow[FIRST]]
    del book["ways"][flow[BACK]]
    if flow[HOLD] is not None:
        give_back(book, moment, flow[HOLD])


def carry(book, moment, packet):
    """Return the pair of the book and the answer to a packet that comes at a moment."""
    book = swept(book, moment)
    found = book["ways"].get(way_of(packet))
    if found is None:
        return (book, ("new",))
    if packet[3] == 1:
        return (book, ("drop", "hops"))
    number, side = found
    flow, kind = book["flows"][number], packet[7][0]
    if kind == "failure":
        return (book, _answer_to_failure(book["ground"], flow, side, packet))
    if kind == "tcp":
        return _carry_segment(book, moment, flow, side, packet)
    state = "open" if side == 1 else flow[STATE]
    book["flows"][number] = _renewed(flow, moment, state)
    return (book, ("out", _sent(flow, side, packet), number, side))


def _way_out(flow, side):
    """Return the way by which what comes from a side goes out."""
    return turned(flow[BACK if side == 0 else FIRST])


def _sent(flow, side, packet):
    """Return the packet of a side of a flow as it is sent on."""
    packet = moved(packet, _way_out(flow, side))
    return packet[:3] + (packet[3] - 1,) + packet[4:]


def _renewed(flow, moment, state):
    """Return the flow in a state that it has from a moment on."""
    due = moment + flow[TIMES][TIME_PLACES[(flow[FIRST][0], state)]]
    return flow[:STATE] + (state, due) + flow[VERSION:]


def _answer_to_failure(ground, flow, side, packet):
    if not _quotes_well(flow, side, packet[7][4]):
        return ("drop", "quoted")
    sent = moved_failure(ground, packet, flow[FIRST + side], _way_out(flow, side))
    return ("out", sent, flow[NUMBER], side)


def _quotes_well(flow, side, stub):
    """Return whether the other side of a flow may have sent what a failure from a side quotes."""
    talk, part = flow[TALK], stub[8]
    if talk is None:
        return True
    if talk[2] is None:
        return side == 1 and part[3] == talk[1][START]
    return between(talk[2 - side][END], part[3]) <= talk[1 + side][WIDE]


def _carry_segment(book, moment, flow, side, packet):
    number = flow[NUMBER]
    word, talk = tracked(flow[TALK], side, packet[7])
    if word == "new":
        _end(book, moment, number)
        return (book, ("new",))
    if word not in ("fits", "again"):
        return (book, ("drop", word))
    if word == "fits":
        # What comes again does not keep a flow from ending.
        book["flows"][number] = _renewed(flow, moment, talk[0])[:TALK] + (talk,)
    return (book, ("out", _sent(flow, side, packet), number, side))


def may_open(packet):
    """Return whether a packet may open a flow."""
    body = packet[7]
    if body[0] == "tcp":
        return is_bare_syn(body)
    return body[0] == "udp" or body[0] == "echo" and body[1] == "ask"


def opened(book, moment, packet, plan, version, room):
    """Return the pair of the book and the answer to a packet that may open a flow, and that no flow carries."""
    book = _copied(book)
    target, pool, times = plan
    first = way_of(packet)
    kind, end = first[0], first[1:3]
    if pool is not None:
        end = end_for(book, moment, pool, kind, end[0], end[1])
    back = _way_back(first, target, end)
    ways = book["ways"]
    word = first_wrong([
        ("hops", packet[3] > 1),
        ("full", len(book["flows"]) < room),
        ("ports", end is not None),
        ("alike", first not in ways and back not in ways and first != back),
    ])
    if word is not None:
        return (book, ("drop", word))
    hold = None if pool is None else (pool,) + first[:3]
    if hold is not None:
        take_end(book, hold, end)
    talk = begun(packet[7]) if kind == "tcp" else None
    number = book["next"]
    flow = _renewed((number, first, back, "asked", moment, version, times, hold, talk), moment, "asked")
    _enter(book, flow)
    return (book, ("out", _sent(flow, 0, packet), number, 0))


def _way_back(first, target, end):
    """Return the way from the target's end to the source's end, or None if this has none."""
    if end is None:
        return None
    if target is None:
        target = first[3:]
    return (first[0],) + target + end


def _enter(book, flow):
    """Enter the flow with the next number; this changes the book."""
    number = flow[NUMBER]
    book["next"] = number + book["ground"][3]
    book["flows"][number] = flow
    book["ways"][flow[FIRST]] = (number, 0)
    book["ways"][flow[BACK]] = (number, 1)


def cut_below(book, moment, version):
    """Return the pair of the book without the flows of lesser versions, and the list of their numbers."""
    book = swept(book, moment)
    flows = book["flows"]
    numbers = sorted([number for number in flows if flows[number][VERSION] < version])
    for number in numbers:
        _end(book, moment, number)
    return (book, numbers)


def held(book, version):
    """Return whether a flow of a book has a version."""
    flows = book["flows"]
    return any([flows[number][VERSION] == version for number in flows])
