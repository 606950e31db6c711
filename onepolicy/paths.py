"""Targets: their normal forms, and their printing (points 520 to 524)."""

from onepolicy.errors import Unfit
from onepolicy.heads import is_signs, is_target, sign_of

MOST_SEGMENT = 380
MOST_PLAIN_SEGMENT = 20
DIGITS = "0123456789abcdef"

# The signs that stand in a printed segment as they are.
PLAIN_SIGNS = "abcdefghijklmnopqrstuvwxyzABCDEFGHIJKLMNOPQRSTUVWXYZ0123456789-_."

# The parts that change the segments, and are none.
DOTS = (".", "..")


def normal(target):
    """Return the normal form (segments, ends, query) of a target, or None; raise Unfit if it is no wide target."""
    if not is_target(target, True):
        raise Unfit()
    path, mark, query = target.partition("?")
    parts = [_decoded(part) for part in path[1:].split("/")]
    segments = None if None in parts else _gone_through(parts)
    if segments is None:
        return None
    ends = len(segments) == 0 or parts[-1] == "" or parts[-1] in DOTS
    return (tuple(segments), ends, query if mark == "?" else None)


def _decoded(part):
    """Return a part of a path with the signs that its "~" mean, or None if it can't be one."""
    if "\\" in part:
        return None
    pieces = part.split("~")
    signs = pieces[0]
    for piece in pieces[1:]:
        sign = _sign_by(piece[:2].lower())
        if sign in ("", "/", "\\"):
            return None
        signs += sign + piece[2:]
    return signs if len(signs) <= MOST_SEGMENT else None


def _sign_by(word):
    """Return the sign of the octet that a word of two digits means, or an empty string."""
    if len(word) != 2 or word[0] not in DIGITS or word[1] not in DIGITS:
        return ""
    return sign_of(16 * DIGITS.index(word[0]) + DIGITS.index(word[1]))


def _gone_through(parts):
    """Return the list of the segments that parts leave, or None if one is taken away where there is none."""
    segments = []
    for part in parts:
        if part == "..":
            if len(segments) == 0:
                return None
            segments.pop()
        elif part not in ("", "."):
            segments.append(part)
    return segments


def print_target(form):
    """Return the target of a normal form; raise Unfit for any other value."""
    if not _is_form(form):
        raise Unfit()
    segments, ends, query = form
    target = "/" + "/".join([_printed(segment) for segment in segments])
    if ends and len(segments) > 0:
        target += "/"
    return target if query is None else target + "?" + query


def _is_form(value):
    """Return whether a value of any kind is a normal form."""
    if not isinstance(value, tuple) or len(value) != 3:
        return False
    segments, ends, query = value
    if not isinstance(segments, tuple) or not all([is_segment(segment) for segment in segments]):
        return False
    if not isinstance(ends, bool) or len(segments) == 0 and not ends:
        return False
    return query is None or is_signs(query) and " " not in query and "#" not in query


def _printed(segment):
    return "".join([sign if sign in PLAIN_SIGNS else f"~{ord(sign):02X}" for sign in segment])


def is_segment(value):
    """Return True if a value of any kind is a segment."""
    if not is_signs(value) or not 1 <= len(value) <= MOST_SEGMENT:
        return False
    return "/" not in value and "\\" not in value and value not in DOTS


def is_plain_segment(value):
    """Return True if a value of any kind is a plain segment."""
    if not isinstance(value, str) or not 1 <= len(value) <= MOST_PLAIN_SEGMENT:
        return False
    return all([sign in PLAIN_SIGNS for sign in value]) and value not in DOTS
