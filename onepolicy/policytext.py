"""Policies as texts (points 540 to 546)."""

from onepolicy.errors import BadText, Unfit
from onepolicy.fields import whole_within
from onepolicy.heads import is_signs
from onepolicy.policy_tokens import MOST_DEPTH, Tokens, read_value
from onepolicy.versions import KEYS

MOST_INTEGER = 999999999999

# The words of lines in their order, each with the key of its values, and whether there is just one such line.
LINES = (
    ("rule", "rules", False),
    ("last", "rules", True),
    ("service", "services", False),
    ("limit", "limits", False),
    ("times", "times", True),
    ("room", "room", True),
    ("route", "routes", False),
    ("header", "headers", False),
    ("error", "errors", False),
    ("trusted", "trusted", False),
    ("keep", "keep", True),
)

# How many parts the tuples of some lines have; those of times have any number.
PARTS = {"rule": 3, "last": 2, "times": None}


def _is_plain(value, depth):
    """Return whether a value of any kind is plain, with at most so many brackets."""
    if isinstance(value, tuple):
        return depth > 0 and all([_is_plain(part, depth - 1) for part in value])
    return value is None or is_signs(value) or whole_within(value, 0, MOST_INTEGER)


def _is_value_of(word, value):
    """Return whether a plain value can stand in a line with a word."""
    if word not in PARTS:
        return True
    return isinstance(value, tuple) and PARTS[word] in (None, len(value))


def is_plain_policy(value):
    """Return True if a value of any kind is a plain policy."""
    if not isinstance(value, dict) or len(value) != len(KEYS) or not all([key in value for key in KEYS]):
        return False
    rules = value["rules"]
    if not isinstance(rules, tuple) or len(rules) != 2 or not isinstance(rules[0], tuple):
        return False
    for _, key, is_one in LINES:
        if not is_one and not isinstance(value[key], tuple):
            return False
    return all([_is_plain(row, MOST_DEPTH) and _is_value_of(word, row) for word, row in _rows_of(value)])


def _rows_of(policy):
    """Return the list of the pairs of a word and a value, for the lines of a policy in their order."""
    rows = []
    for word, key, is_one in LINES:
        value = policy[key]
        if key == "rules":
            value = value[1] if is_one else value[0]
        rows.extend([(word, value)] if is_one else [(word, row) for row in value])
    return rows


def read_policy(text):
    """Return the policy of a text; raise BadText where it is none, and Unfit if it is no string of signs and lines."""
    if not isinstance(text, str) or not is_signs(text.replace("\n", "")):
        raise Unfit()
    lines, stage, rows = text.split("\n"), 0, []
    for index, line in enumerate(lines):
        tokens = Tokens(index + 1, line)
        token = tokens.token()
        if token is not None:
            place = _place_of(stage, token)
            if place is None:
                raise BadText(tokens.number, token[2])
            rows.append((LINES[place][0], _read_rest(tokens, LINES[place][0])))
            stage = place + 1 if LINES[place][2] else place
    if stage < len(LINES):
        raise BadText(len(lines) + 1, 1)
    return _policy_of_rows(rows)


def _place_of(stage, token):
    """Return the place among the lines of the word that a token is, or None if it can't come at a stage."""
    for place in range(stage, len(LINES)):
        word, _, is_one = LINES[place]
        if token[:2] == ("word", word):
            return place
        if is_one:
            return None
    return None


def _read_rest(tokens, word):
    """Return the value behind the word of a line, with which the line ends; raise BadText."""
    first = tokens.token()
    value = read_value(tokens, first, 0)
    behind = tokens.token()
    if behind is not None:
        raise BadText(tokens.number, behind[2])
    if not _is_value_of(word, value):
        raise BadText(tokens.number, first[2])
    return value


def _policy_of_rows(rows):
    policy = {}
    for word, key, is_one in LINES:
        values = tuple([value for other, value in rows if other == word])
        if word == "last":
            policy[key] = (policy[key], values[0])
        else:
            policy[key] = values[0] if is_one else values
    return {key: policy[key] for key in KEYS}


def print_policy(policy):
    """Return the text of a plain policy; raise Unfit for any other value."""
    if not is_plain_policy(policy):
        raise Unfit()
    return "".join([f"{word} {_printed(value)}\n" for word, value in _rows_of(policy)])


def _printed(value):
    if value is None:
        return "none"
    if isinstance(value, tuple):
        return "(" + " ".join([_printed(part) for part in value]) + ")"
    if isinstance(value, str):
        return "\"" + value.replace("\\", "\\\\").replace("\"", "\\\"") + "\""
    return str(value)
