"""The desk of a worker: what its flows and requests have of limits and services (points 405, 452 and 733).

A desk is a dict with the keys "states" (of limits), "balance" (of services) and "holds", the list of the triples
(owner, limit, key) of all that is held: the owner is the number of a flow, or the name of a request. The functions
that change a desk say so; they put new values in the place of the old ones.
"""

from onepolicy.balance import empty_state, ended, look, take
from onepolicy.limits import ask


def new_desk():
    """Return the desk of a worker at its beginning."""
    return {"states": {}, "balance": empty_state(), "holds": []}


def index_of(rows, name):
    """Return the index of the service, or of the limit, with a name."""
    return [row[0] for row in rows].index(name)


def look_at(policy, desk, service, client, moment):
    """Return the server that a client would get of the service with a name, or None."""
    row = policy["services"][index_of(policy["services"], service)]
    place = look(row, desk["balance"], client, moment)
    return None if place is None else row[1][place]


def take_server(policy, desk, service, client, moment):
    """Return the name of the server that a client gets, who can get one of a service; this changes the desk."""
    index = index_of(policy["services"], service)
    place, state = take(policy["services"], index, desk["balance"], client, moment)
    desk["balance"] = state
    return policy["services"][index][1][place][0]


def give_back_server(desk, given, moment):
    """Give back what a client had of a server, a triple (service, server, client); this changes the desk."""
    service, server, client = given
    desk["balance"] = ended(desk["balance"], service, server, client, moment)


def ask_limits(policy, desk, names, moment, asker):
    """Return what the limits with these names, asked in order, tell to who asks for one."""
    limits = policy["limits"]
    rows = tuple([limits[index_of(limits, name)] for name in names])
    holds = [(limit, key) for _, limit, key in desk["holds"]]
    return ask(rows, desk["states"], holds, moment, asker, 1)


def take_limits(desk, owner, answer):
    """Let an owner have what limits let by an answer; this changes the desk."""
    _, states, adds = answer
    desk["states"] = states
    desk["holds"] = desk["holds"] + [(owner, limit, key) for limit, key in adds]


def give_back_limits(desk, owner):
    """Give back all that an owner holds; this changes the desk."""
    desk["holds"] = [row for row in desk["holds"] if row[0] != owner]
