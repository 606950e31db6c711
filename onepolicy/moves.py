"""Moves: which clients get another server by marks when a service changes (point 457)."""

from onepolicy.balance import by_marks
from onepolicy.boxes import is_number


def moves(service, other, clients):
    """Return the list of (client, old server, new server), names or None, of the clients that move, in order."""
    found = {}
    for client in clients:
        if client not in found:
            found[client] = (client, _server_of(service, client), _server_of(other, client))
    return [row for row in found.values() if row[1] != row[2]]


def _server_of(service, client):
    """Return the name of the server that a client gets by its marks, or None."""
    place = by_marks(service, client)
    return None if place is None else service[1][place][0]


def right_moves(service, other, clients, rows):
    """Return whether rows, a value of any kind, are the moves."""
    if rows != moves(service, other, clients):
        return False
    # A truth is no client, though Python takes it for equal to a number.
    return all([is_number(row[0]) for row in rows])
