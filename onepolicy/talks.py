"""Talks: what is known of the two sides of a tcp flow (points 125 to 134)."""

from onepolicy.circle import after, between, later, later_one, lies
from onepolicy.options import shift_of

# The forms of segments that are not odd: sums of fin 1, syn 2, rst 4 and ack 16.
SYN = 2
SYN_ACK = 18
ACK = 16
FIN_ACK = 17
RST = 4
RST_ACK = 20

# Where the fields of a side stand.
START = 0
END = 1
TOP = 2
WIDE = 3
HEARD = 4
SHIFT = 5
FIN = 6

# Where the fields of a segment stand.
SEQ = 3
ACKED = 4
FLAGS = 5
WINDOW = 6
OPTIONS = 8
DATA = 9

# An ack may be this far behind what the other side has sent.
BEHIND = 2 ** 30


def segment_end(segment):
    """Return the end of a segment."""
    flags = segment[FLAGS]
    marks = (1 if flags & 2 else 0) + (flags & 1)
    return after(segment[SEQ], len(segment[DATA]) + marks)


def begun(segment):
    """Return the talk that a bare syn begins."""
    start, wide = segment[SEQ], _width(segment[WINDOW])
    end = after(start, 1)
    return ("asked", (start, end, end, wide, start, shift_of(segment[OPTIONS]), None), None)


def is_bare_syn(segment):
    """Return whether a segment is a bare syn."""
    return _form(segment) == SYN and len(segment[DATA]) == 0


def tracked(talk, x, segment):
    """Return the pair of the word and the talk behind a segment of side x."""
    state = talk[0]
    if _is_odd(segment):
        return ("odd", talk)
    if state == "asked":
        return _in_asked(talk, x, segment)
    if state == "answered":
        return _in_answered(talk, x, segment)
    if state == "over":
        return (_word_in_over(talk, x, segment), talk)
    return _in_open(talk, x, segment)


def _form(segment):
    return segment[FLAGS] & 23


def _is_odd(segment):
    form = _form(segment)
    if form in (SYN, SYN_ACK):
        return len(segment[DATA]) > 0
    return form not in (ACK, FIN_ACK, RST, RST_ACK)


def _is_rst(segment):
    return _form(segment) in (RST, RST_ACK)


def _width(window):
    """Return how many numbers a window lets the other side send."""
    return max(window, 1)


def _ended(talk):
    return ("fits", ("over", talk[1], talk[2]))


# From here on no segment is odd, so each one of the form syn is a bare syn.


def _is_first_syn(talk, x, segment):
    """Return whether a segment is the syn of the opener."""
    return x == 0 and _form(segment) == SYN and segment[SEQ] == talk[1][START]


def _in_asked(talk, x, segment):
    opener, form = talk[1], _form(segment)
    if _is_first_syn(talk, x, segment):
        return ("again", talk)
    if x == 0 and _is_rst(segment) and segment[SEQ] == opener[END]:
        return _ended(talk)
    if x == 1 and form == SYN_ACK and segment[ACKED] == opener[END]:
        return ("fits", _answered(opener, segment))
    if x == 1 and form == RST_ACK and segment[ACKED] == opener[END]:
        return _ended(talk)
    return ("state", talk)


def _answered(opener, segment):
    """Return the talk behind the answer to the opener's syn."""
    start, ack, wide = segment[SEQ], segment[ACKED], _width(segment[WINDOW])
    shift, other_shift = opener[SHIFT], shift_of(segment[OPTIONS])
    # Windows are shifted only if both sides have told that they do it.
    if shift is None or other_shift is None:
        shift, other_shift = 0, 0
    end = after(start, 1)
    answerer = (start, end, after(end, opener[WIDE]), wide, start, other_shift, None)
    heard = (opener[START], opener[END], after(ack, wide), opener[WIDE], ack, shift, opener[FIN])
    return ("answered", heard, answerer)


def _in_answered(talk, x, segment):
    if _is_first_syn(talk, x, segment) or _is_syn_ack(talk, x, segment, talk[1][END]):
        return ("again", talk)
    if _is_rst(segment) and segment[SEQ] == talk[1 + x][END]:
        return _ended(talk)
    if x == 0 and _form(segment) in (ACK, FIN_ACK) and segment[ACKED] == talk[2][END]:
        return _in_open(talk, x, segment)
    return ("state", talk)


def _is_syn_ack(talk, x, segment, ack):
    """Return whether a segment is the answerer's syn with this ack."""
    return x == 1 and _form(segment) == SYN_ACK and segment[SEQ] == talk[2][START] and segment[ACKED] == ack


def _lies_well(talk, x, segment):
    side, other = talk[1 + x], talk[2 - x]
    flags, end = segment[FLAGS], segment_end(segment)
    if not lies(end, after(side[END], -other[WIDE]), side[TOP]):
        return False
    if flags & 16 and between(other[END], segment[ACKED]) > BEHIND:
        return False
    if side[FIN] is None:
        return not (flags & 1 and later(side[END], end))
    return not later(end, side[FIN]) and ((flags & 1) == 0 or end == side[FIN])


def _in_open(talk, x, segment):
    side = talk[1 + x]
    if _is_first_syn(talk, x, segment) or _is_syn_ack(talk, x, segment, after(talk[1][START], 1)):
        return ("again", talk)
    if segment[FLAGS] & 2:
        return ("state", talk)
    if not _lies_well(talk, x, segment):
        return ("window", talk)
    if not _is_rst(segment):
        return ("fits", _taken(talk, x, segment))
    if segment[SEQ] == side[HEARD] or segment[SEQ] == side[END]:
        return _ended(talk)
    return ("again", talk)


def _taken(talk, x, segment):
    """Return the talk behind a segment that lies well and is neither syn nor rst."""
    start, end, top, wide, heard, shift, fin = talk[1 + x]
    window, ack, reached = segment[WINDOW] << shift, segment[ACKED], segment_end(segment)
    if segment[FLAGS] & 1:
        fin = reached
    side = (start, later_one(reached, end), top, max(window, wide), heard, shift, fin)
    start, end, top, wide, heard, shift, fin = talk[2 - x]
    top = later_one(after(ack, _width(window)), top)
    other = (start, end, top, wide, later_one(ack, heard), shift, fin)
    if x == 0:
        return (_state_of(side, other), side, other)
    return (_state_of(side, other), other, side)


def _state_of(side, other):
    if side[FIN] is None and other[FIN] is None:
        return "open"
    if side[FIN] == side[HEARD] and other[FIN] == other[HEARD]:
        return "over"
    return "closing"


def _word_in_over(talk, x, segment):
    if x == 0 and _form(segment) == SYN and later(segment[SEQ], talk[1][END]):
        return "new"
    # No segment lies well as long as there is no answerer to lie by.
    if segment[FLAGS] & 2 or talk[2] is None or not _lies_well(talk, x, segment):
        return "over"
    return "again"
