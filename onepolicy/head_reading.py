"""Heads of requests and answers, read octet by octet (points 505, 506, 509 and 510).

Each function of a stage takes the octet that stands there, and returns the word of a fault, or None. It asks in the
order in which the document tells the faults, so the first one that holds is told.
"""

from onepolicy.heads import (
    CR, DIGITS, LETTERS, LF, METHODS, answers_have_body, has_body, is_host, is_method, is_number_of_octets, sign_of,
    values_of,
)

BLANK = 32
COLON = 58
SLASH = 47
VERSION = "E/1"
PIECES = "pieces"
MOST_NAME = 24
MOST_HEAD = 2000

# The greatest number of signs of a target and of a value, and of headers: narrow, and wide.
MOST_TARGET = (380, 1900)
MOST_VALUE = (200, 400)
MOST_HEADERS = (30, 70)

NAME_SIGNS = LETTERS + DIGITS + "-ABCDEFGHIJKLMNOPQRSTUVWXYZ"

# Headers that stand at most once in a head, the first two of them in place of a body's number of octets.
SINGLE = ("length", "transfer", "host", "connection")
OF_BODY = ("length", "transfer")


class Head:
    """What is known of a head: of a request, or of an answer to a method."""

    def __init__(self, answered, wide):
        self.answered = answered
        self.wide = 1 if wide else 0
        self.stage = "method" if answered is None else "version"
        self.many = 0
        self.word = ""
        self.start = ()
        self.name = ""
        self.headers = []
        self.body = {}

    def twin(self):
        """Return the same head, that goes on by itself."""
        other = Head(self.answered, self.wide == 1)
        other.stage = self.stage
        other.many = self.many
        other.word = self.word
        other.start = self.start
        other.name = self.name
        other.headers = list(self.headers)
        other.body = {**self.body}
        return other

    def take(self, octet):
        """Take the next octet; return the word of the fault that it brings, or None."""
        action = STAGES[self.stage]
        word = action(self, octet)
        if word is not None:
            return word
        self.many += 1
        if self.wide == 0 and self.many + least_rest(self) > MOST_HEAD:
            return "head"
        return _fault_of_whole(self) if self.is_whole() else None

    def is_whole(self):
        """Return whether the empty line has come."""
        return self.stage == "whole"

    def can_have_body(self):
        """Return whether a body can be behind this head."""
        if self.answered is None:
            return has_body(self.start[0])
        return answers_have_body(self.answered) and self.start[0] not in (204, 304)


def _take_method(head, octet):
    if octet == BLANK and is_method(head.word):
        head.start = (head.word,)
        _go_to(head, "target")
        return None
    word = head.word + sign_of(octet)
    if word == head.word or not any([row[0].startswith(word) for row in METHODS]):
        return "method"
    head.word = word
    return None


def _go_to(head, stage):
    head.stage = stage
    head.word = ""


def _take_target(head, octet):
    if head.word == "" and octet != SLASH:
        return "target"
    if octet == BLANK:
        head.start = head.start + (head.word,)
        _go_to(head, "version")
        return None
    sign = sign_of(octet)
    if sign in ("", "#") or len(head.word) == MOST_TARGET[head.wide]:
        return "target"
    head.word += sign
    return None


def _take_version(head, octet):
    if len(head.word) < len(VERSION):
        if sign_of(octet) != VERSION[len(head.word)]:
            return "version"
        head.word += sign_of(octet)
        return None
    # Behind the version a request's line ends; an answer's status comes.
    if octet != (CR if head.answered is None else BLANK):
        return "version"
    _go_to(head, "line feed" if head.answered is None else "status")
    return None


def _take_status(head, octet):
    if len(head.word) == 3:
        if octet != CR:
            return "version"
        head.start = (int(head.word),)
        _go_to(head, "line feed")
        return None
    sign = sign_of(octet)
    if sign == "" or sign not in ("2345" if head.word == "" else DIGITS):
        return "status"
    head.word += sign
    return None


def _take_line_feed(head, octet):
    if octet != LF:
        return "control"
    _go_to(head, "name")
    return None


def _take_name(head, octet):
    if octet == CR and head.word == "":
        _go_to(head, "last")
        return None
    if octet == COLON and head.word != "":
        return _take_colon(head)
    sign = sign_of(octet)
    if sign == "" or sign not in NAME_SIGNS or len(head.word) == MOST_NAME:
        return "name"
    head.word += sign.lower()
    if has_most_headers(head) and not any([name.startswith(head.word) for name in names_of_body(head)]):
        return "many"
    return None


def _take_colon(head):
    name = head.word
    if name in SINGLE and (name in head.body or len(values_of(head.headers, name)) > 0):
        return "twice"
    if name in OF_BODY and len(head.body) > 0:
        return "both"
    if name == "host" and head.answered is not None:
        return "host"
    if name in OF_BODY and not head.can_have_body():
        return "body"
    if has_most_headers(head) and name not in OF_BODY:
        return "many"
    _go_to(head, "blank")
    head.name = name
    return None


def has_most_headers(head):
    """Return whether so many headers stand ahead that only one that tells of the body can come."""
    return len(head.headers) >= MOST_HEADERS[head.wide]


def names_of_body(head):
    """Return the names "length" and "transfer", if they can still stand."""
    return OF_BODY if head.can_have_body() and len(head.body) == 0 else ()


def _take_blank(head, octet):
    if octet != BLANK:
        return "blank"
    head.stage = "value"
    return None


def _take_value(head, octet):
    if octet == CR:
        return _take_end_of_value(head)
    sign, many, most = sign_of(octet), len(head.word), MOST_VALUE[head.wide]
    if sign == "":
        return "control"
    if many == most or sign == " " and many in (0, most - 1):
        return "value"
    if head.name == "length" and not is_number_of_octets(head.word + sign):
        return "length"
    if head.name == "transfer" and not PIECES.startswith(head.word + sign):
        return "transfer"
    head.word += sign
    return None


def _take_end_of_value(head):
    name, value = head.name, head.word
    if value.endswith(" "):
        return "value"
    if name == "length" and value == "":
        return "length"
    if name == "transfer" and value != PIECES:
        return "transfer"
    if name in OF_BODY:
        head.body[name] = value
    else:
        head.headers.append((name, value))
    _go_to(head, "line feed")
    return None


def _take_last(head, octet):
    if octet != LF:
        return "control"
    _go_to(head, "whole")
    return None


# What takes the octet at each stage; at "name" a line begins, too, and at "last" the empty one ends.
STAGES = {
    "method": _take_method,
    "target": _take_target,
    "version": _take_version,
    "status": _take_status,
    "line feed": _take_line_feed,
    "name": _take_name,
    "blank": _take_blank,
    "value": _take_value,
    "last": _take_last,
}


def _fault_of_whole(head):
    """Return the word of the fault that is told at the end of a head, or None."""
    hosts = values_of(head.headers, "host")
    if head.answered is None and (len(hosts) == 0 or not is_host(hosts[0])):
        return "host"
    if head.answered is not None and head.can_have_body() and len(head.body) == 0:
        return "empty"
    return None


def least_rest(head):
    """Return the least number of octets that can still end a head rightly."""
    if head.stage == "line feed":
        return 3
    if head.stage == "name":
        return 2 if head.word == "" else _rest_of_name(head)
    if head.stage == "blank":
        return 1 + _rest_of_value(head.name, "")
    if head.stage == "value":
        return _rest_of_value(head.name, head.word)
    if head.stage == "last":
        return 1
    # A first line is never so long that its rest would matter.
    return 0


def _rest_of_value(name, word):
    """Return the least rest in a value: what ends it, and two lines."""
    if name == "transfer":
        return len(PIECES) - len(word) + 4
    if word.endswith(" ") or name == "length" and word == "":
        return 5
    return 4


def _rest_of_name(head):
    """Return the least rest in a name that has begun."""
    word = head.word
    if has_most_headers(head):
        names = [name for name in names_of_body(head) if name.startswith(word)]
        return min([len(name) - len(word) + 2 + _rest_of_value(name, "") for name in names])
    # A name that can't end here, or asks for a value, is no such one with one more sign.
    is_free = word not in OF_BODY and (word != "host" or head.answered is None)
    if is_free and (word not in SINGLE or len(values_of(head.headers, word)) == 0):
        return 6
    return 7
