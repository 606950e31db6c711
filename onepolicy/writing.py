"""Requests and answers as octets (points 505 and 507)."""

from onepolicy.errors import Unfit
from onepolicy.heads import CR, LF, is_answer, is_request


def write_request(request):
    """Return the list of the octets of a wide request; raise Unfit for any other value."""
    if not is_request(request, True):
        raise Unfit()
    method, target, headers, body = request
    return _written(f"{method} {target} E/1", headers, body)


def write_answer(answer, method):
    """Return the list of the octets of a wide answer to a method; raise Unfit for any other values."""
    if not is_answer(answer, method, True):
        raise Unfit()
    status, headers, body = answer
    return _written(f"E/1 {status}", headers, body)


def _written(first, headers, body):
    """Return the octets of a text with a first line, headers and a body."""
    lines = [first] + [f"{name}: {value}" for name, value in headers]
    if body is not None:
        lines.append(f"length: {len(body)}")
    octets = []
    for line in lines + [""]:
        octets.extend([ord(sign) for sign in line] + [CR, LF])
    return octets + list(body or ())
