"""Header rows and trusted addresses: which headers go inside and outside (points 532, 533, 535, 561 and 563)."""

from onepolicy.addresses import show_address
from onepolicy.boxes import is_number
from onepolicy.heads import is_name, is_value, values_of
from onepolicy.routes import first_broken

MOST_ROWS = 30
MOST_TRUSTED = 20
MOST_ADDRESS = 4294967295

# How many rows of a kind there may be, where this is told.
MOST_OF_KIND = {"set": 10, "from": 4}

# How many parts a row of a kind has.
PARTS_OF_KIND = {"hide": 3, "set": 4, "from": 2}

# Names that no row has: they are the edge's own affair.
OWN_NAMES = ("host", "connection", "request")


def fault_headers(policy):
    """Return None, or the fault (word, place) of the headers of a policy, a value of any kind."""
    rows = policy["headers"]
    if not isinstance(rows, tuple) or len(rows) > MOST_ROWS:
        return ("header", None)
    place = first_broken([_is_row(row) and not _is_beyond(row, rows[:index]) for index, row in enumerate(rows)])
    if place is not None:
        return ("header", place)
    ends = [(_side_of(row), _name_of(row)) for row in rows]
    place = first_broken([ends[index] not in ends[:index] for index in range(len(ends))])
    return None if place is None else ("same header", place)


def _is_row(row):
    """Return whether a value of any kind has the form of a header row."""
    if not isinstance(row, tuple) or len(row) == 0 or not isinstance(row[0], str):
        return False
    if len(row) != PARTS_OF_KIND.get(row[0], 0) or _side_of(row) not in ("request", "answer"):
        return False
    if not is_name(_name_of(row)) or _name_of(row) in OWN_NAMES:
        return False
    return row[0] != "set" or is_value(row[3], False)


def _side_of(row):
    return "request" if row[0] == "from" else row[1]


def _name_of(row):
    return row[1] if row[0] == "from" else row[2]


def _is_beyond(row, others):
    """Return whether a row is one too many of its kind behind other ones, values of any kind."""
    most = MOST_OF_KIND.get(row[0], MOST_ROWS)
    return len([other for other in others if _is_row(other) and other[0] == row[0]]) >= most


def fault_trusted(policy):
    """Return None, or the fault (word, place) of the trusted ones of a policy, a value of any kind."""
    rows = policy["trusted"]
    if not isinstance(rows, tuple) or len(rows) > MOST_TRUSTED:
        return ("trusted", None)
    last = -1
    for index, row in enumerate(rows):
        if not _is_trusted_row(row) or row[0] <= last:
            return ("trusted", index)
        last = row[1]
    return None


def _is_trusted_row(row):
    """Return whether a value of any kind is a pair of addresses, the first one not above the second one."""
    if not isinstance(row, tuple) or len(row) != 2 or not is_number(row[0]) or not is_number(row[1]):
        return False
    return 0 <= row[0] <= row[1] <= MOST_ADDRESS


def is_trusted(trusted, address):
    """Return whether an address is trusted."""
    return any([low <= address <= high for low, high in trusted])


def inside_headers(headers, trusted, client, name, given):
    """Return the headers that go inside for those of a request with a name that came from a client."""
    kept = _passed(headers, "request", given, ("request",))
    rows = [row for row in headers if row[0] == "from"]
    own = [(row[1], _from_value(row[1], trusted, client, given)) for row in rows]
    return kept + tuple(own) + (("request", f"{name[0]}.{name[1]}"),)


def outside_headers(headers, given):
    """Return the headers that go outside for those of an answer."""
    return _passed(headers, "answer", given, ())


def _passed(headers, side, given, barred):
    """Return the headers that came and go on, and then those that the rows of a side set."""
    names = [_name_of(row) for row in headers if _side_of(row) == side]
    names += ["connection"] + list(barred) + _named_by_connection(given)
    kept = [(name, value) for name, value in given if name not in names]
    return tuple(kept + [(row[2], row[3]) for row in headers if row[0] == "set" and row[1] == side])


def _named_by_connection(given):
    """Return the list of the names that headers "connection" tell."""
    words = []
    for value in values_of(given, "connection"):
        words.extend(value.lower().replace(",", " ").split(" "))
    # Without a host no request could go on.
    return [word for word in words if word != "host"]


def _from_value(name, trusted, client, given):
    """Return the value of a header that tells from where a request came."""
    text, values = show_address(client), values_of(given, name)
    # What a client says of itself counts for nothing, unless it is trusted.
    if len(values) > 0 and is_trusted(trusted, client):
        return values[0] + ", " + text
    return text
