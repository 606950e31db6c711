"""Routes of requests, and the edge's own errors (points 530, 531, 534 and 535)."""

from onepolicy.fields import whole_within
from onepolicy.heads import METHODS, is_host, is_signs
from onepolicy.paths import is_plain_segment, is_segment

MOST_ROUTES = 40
MOST_PREFIX = 8
MOST_PUT = 4
MOST_LIMITS = 4
MOST_WAIT = 1000
MOST_TRIES = 3
MOST_TEXT = 200
ANY_HOST = "*"

# The words of the errors of a policy, in their order.
ERRORS = ("refused", "no route", "none", "limit", "broken", "late")

# Where the fields of a route stand.
HOST = 0
PREFIX = 1
ROUTE_METHODS = 2
SERVICE = 3
TAKE = 4
PUT = 5
LIMITS = 6
WAIT = 7
TRIES = 8


def first_broken(rows):
    """Return the index of the first one of a list of truths that is False, or None."""
    return rows.index(False) if False in rows else None


def fault_routes(policy):
    """Return None, or the fault (word, place) of the routes of a policy, a value of any kind."""
    routes = policy["routes"]
    if not isinstance(routes, tuple) or len(routes) > MOST_ROUTES:
        return ("route", None)
    place = first_broken([_is_route(row) for row in routes])
    if place is not None:
        return ("route", place)
    services = [service[0] for service in policy["services"]]
    limits = [limit[0] for limit in policy["limits"]]
    checks = (
        ("no service", [row[SERVICE] in services for row in routes]),
        ("no limit", [all([name in limits for name in row[LIMITS]]) for row in routes]),
        ("same route", [_is_new(row, routes[:index]) for index, row in enumerate(routes)]),
    )
    for word, rows in checks:
        if False in rows:
            return (word, first_broken(rows))
    return None


def _is_route(row):
    """Return whether a value of any kind is a route, whatever it names."""
    if not isinstance(row, tuple) or len(row) != 9:
        return False
    host, prefix, methods, service, take, put, limits, wait, tries = row
    if not is_host(host) and host != ANY_HOST:
        return False
    if not _is_tuple_of(prefix, MOST_PREFIX, is_segment) or not _are_methods(methods):
        return False
    if not isinstance(service, str) or not whole_within(take, 0, len(prefix)):
        return False
    if not _is_tuple_of(put, MOST_PUT, is_plain_segment) or not _are_names(limits):
        return False
    return whole_within(wait, 1, MOST_WAIT) and whole_within(tries, 1, MOST_TRIES)


def _is_tuple_of(value, most, is_part):
    """Return whether a value of any kind is a tuple of at most so many parts of a sort."""
    return isinstance(value, tuple) and len(value) <= most and all([is_part(part) for part in value])


def _are_methods(value):
    """Return whether a value of any kind is a tuple of methods in their order, at least one."""
    if not isinstance(value, tuple) or len(value) == 0:
        return False
    return value == tuple([row[0] for row in METHODS if row[0] in value])


def _is_text(value):
    return isinstance(value, str)


def _are_names(value):
    """Return whether a value of any kind is a tuple of names of limits, none of them twice."""
    return _is_tuple_of(value, MOST_LIMITS, _is_text) and len({name: True for name in value}) == len(value)


def _is_new(row, others):
    """Return whether no other route has the host, the prefix and a method of a route."""
    for other in others:
        if other[:ROUTE_METHODS] == row[:ROUTE_METHODS]:
            if any([method in other[ROUTE_METHODS] for method in row[ROUTE_METHODS]]):
                return False
    return True


def fits_route(route, method, host, segments):
    """Return whether a route fits a request with a method, a host and the segments of its normal form."""
    prefix = route[PREFIX]
    if route[HOST] != host and route[HOST] != ANY_HOST:
        return False
    return method in route[ROUTE_METHODS] and tuple(segments[:len(prefix)]) == prefix


def route_of(routes, method, host, segments):
    """Return the index of the route of a request, or None."""
    # A route of the very host goes ahead of all others, however long their prefixes are.
    for wanted in (host, ANY_HOST):
        found = None
        for index, route in enumerate(routes):
            if route[HOST] == wanted and fits_route(route, method, host, segments):
                if found is None or len(route[PREFIX]) > len(routes[found][PREFIX]):
                    found = index
        if found is not None:
            return found
    return None


def fault_errors(policy):
    """Return None, or the fault (word, place) of the errors of a policy, a value of any kind."""
    errors = policy["errors"]
    if not isinstance(errors, tuple) or len(errors) != len(ERRORS):
        return ("error", None)
    place = first_broken([_is_error(row, word) for row, word in zip(errors, ERRORS)])
    return None if place is None else ("error", place)


def _is_error(row, due):
    """Return whether a value of any kind is the row of the word that is due."""
    if not isinstance(row, tuple) or len(row) != 3:
        return False
    word, status, text = row
    return word == due and whole_within(status, 400, 599) and is_signs(text) and len(text) <= MOST_TEXT


def error_row(errors, word):
    """Return the tuple (status, text) of a word in right errors."""
    for other, status, text in errors:
        if other == word:
            return (status, text)
    return None
