"""Requests, answers and their headers: which values are right ones (points 500 to 505)."""

from onepolicy.fields import whole_within

# Each one with: requests may have a body, it is repeatable, answers may have a body.
METHODS = (
    ("GET", False, True, True),
    ("HEAD", False, True, False),
    ("PUT", True, True, True),
    ("POST", True, False, True),
    ("DELETE", False, True, True),
)

CR = 13
LF = 10
MOST_BODY = 20000

# The signs by their numbers from 32 on, but that none has the number 37.
SIGNS_BELOW = " !\"#$"
SIGNS_ABOVE = "&'()*+,-./0123456789:;<=>?@ABCDEFGHIJKLMNOPQRSTUVWXYZ[\\]^_`abcdefghijklmnopqrstuvwxyz{|}~"

DIGITS = "0123456789"
LETTERS = "abcdefghijklmnopqrstuvwxyz"


def is_number(value):
    """Return True if a value of any kind is an integer, and neither True nor False."""
    return isinstance(value, int) and not isinstance(value, bool)


def is_octets(value):
    """Return True if a value of any kind is a list or tuple of octets."""
    return isinstance(value, (list, tuple)) and all([whole_within(octet, 0, 255) for octet in value])


def _row_of(value):
    """Return the row of a method, or None for a value that is none."""
    for row in METHODS:
        if row[0] == value:
            return row
    return None


def is_method(value):
    """Return True if a value of any kind is a method."""
    return _row_of(value) is not None


def has_body(method):
    """Return True if requests of a method may have a body."""
    return _row_of(method)[1]


def is_repeatable(method):
    """Return True if a method is repeatable."""
    return _row_of(method)[2]


def answers_have_body(method):
    """Return True if answers to a method may have a body."""
    return _row_of(method)[3]


def sign_of(octet):
    """Return the sign of an octet, or an empty string."""
    if 32 <= octet < 37:
        return SIGNS_BELOW[octet - 32]
    if 37 < octet < 127:
        return SIGNS_ABOVE[octet - 38]
    return ""


def _is_word(value, most, signs):
    """Return whether a value of any kind is a string of 1 to so many signs of these."""
    return isinstance(value, str) and 1 <= len(value) <= most and all([sign in signs for sign in value])


def is_signs(value):
    """Return True if a value of any kind is a string of signs."""
    return isinstance(value, str) and all([sign in SIGNS_BELOW or sign in SIGNS_ABOVE for sign in value])


def _has_plain_beginning(word):
    """Return whether a word of digits begins with 0 only if it is 0."""
    return word == "0" or word[0] != "0"


def is_size(word):
    """Return True if a string is a right size of a piece."""
    return _is_word(word, 5, DIGITS + "abcdef") and _has_plain_beginning(word)


def is_number_of_octets(word):
    """Return True if a string is a right number of the octets of a body."""
    return _is_word(word, 5, DIGITS) and _has_plain_beginning(word) and int(word) <= MOST_BODY


def is_name(value):
    """Return True if a value of any kind is the name of a header."""
    return _is_word(value, 24, LETTERS + DIGITS + "-") and value not in ("length", "transfer")


def is_value(value, wide):
    """Return True if a value of any kind is the value of a header."""
    if not is_signs(value) or len(value) > (400 if wide else 200):
        return False
    return not value.startswith(" ") and not value.endswith(" ")


def is_headers(value, wide):
    """Return True if a value of any kind is the headers of a request or an answer."""
    if not isinstance(value, tuple) or len(value) > (70 if wide else 30):
        return False
    if not all([_is_header(header, wide) for header in value]):
        return False
    return len(values_of(value, "connection")) <= 1


def _is_header(value, wide):
    return isinstance(value, tuple) and len(value) == 2 and is_name(value[0]) and is_value(value[1], wide)


def values_of(headers, name):
    """Return the list of the values of the headers with a name, in order."""
    return [value for other, value in headers if other == name]


def is_target(value, wide):
    """Return True if a value of any kind is the target of a request."""
    if not is_signs(value) or len(value) > (1900 if wide else 380):
        return False
    return value.startswith("/") and " " not in value and "#" not in value


def is_host(value):
    """Return True if a value of any kind is the value of a header "host" of a request."""
    return _is_word(value, 60, LETTERS + DIGITS + ".-")


def is_request(value, wide):
    """Return True if a value of any kind is a request."""
    if not isinstance(value, tuple) or len(value) != 4:
        return False
    method, target, headers, body = value
    if not is_method(method) or not is_target(target, wide) or not is_headers(headers, wide):
        return False
    hosts = values_of(headers, "host")
    if len(hosts) != 1 or not is_host(hosts[0]):
        return False
    return body is None or has_body(method) and _is_body(body)


def _is_body(value):
    return isinstance(value, tuple) and len(value) <= MOST_BODY and is_octets(value)


def is_answer(value, method, wide):
    """Return True if a value of any kind is an answer to a method, a value of any kind, too."""
    if not is_method(method) or not isinstance(value, tuple) or len(value) != 3:
        return False
    status, headers, body = value
    if not whole_within(status, 200, 599) or not is_headers(headers, wide) or len(values_of(headers, "host")) > 0:
        return False
    if status in (204, 304) or not answers_have_body(method):
        return body is None
    return _is_body(body)
