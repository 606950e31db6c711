"""Services: which of its servers a client gets (points 450 to 456)."""

from onepolicy.fields import first_wrong, whole_within, within
from onepolicy.limits import is_name

MOST_SERVICES = 16
MOST_SERVERS = 32
MOST_HOLD = 1000000
MOST_KEPT = 256
HEALTHS = ("up", "down", "draining")

# The greatest weight by the choice of the service.
MOST_WEIGHT = {"turns": 100, "least": 100, "marks": 8}

# Marks are numbers below this prime, 2 ** 61 - 1.
MARKS = 2305843009213693951


def fault_of_services(services):
    """Return the first fault of a tuple of services, a pair (index, word), or None."""
    if len(services) > MOST_SERVICES:
        return (MOST_SERVICES, "services")
    for index, service in enumerate(services):
        word = _fault_of_service(service, [other[0] for other in services[:index]])
        if word is not None:
            return (index, word)
    return None


def _fault_of_service(service, earlier):
    name, servers, choice, hold = service
    word = first_wrong([
        ("name", is_name(name)),
        ("twice", name not in earlier),
        ("choice", choice in ("turns", "least", "marks")),
        ("hold", hold is None or whole_within(hold, 0, MOST_HOLD)),
        ("servers", within(len(servers), 1, MOST_SERVERS)),
    ])
    if word is not None:
        return word
    for server in servers:
        word = _fault_of_server(server, MOST_WEIGHT[choice])
        if word is not None:
            return word
    names = {server[0]: True for server in servers}
    return None if len(names) == len(servers) else "alike"


def _fault_of_server(server, most):
    name, _, _, weight, health = server
    return first_wrong([
        ("server", is_name(name)),
        ("weight", whole_within(weight, 0, most)),
        ("health", health in HEALTHS),
    ])


def eligible(service):
    """Return the list of the places of the eligible servers of a service, ascending."""
    return [place for place, server in enumerate(service[1]) if server[4] == "up" and server[3] >= 1]


def mark(client, name, copy):
    """Return the mark of a client for a copy of a server."""
    return _further(_mark_of_all(client, name), copy)


def rank(client, server):
    """Return the rank of a server with a weight of 1 or more for a client."""
    value = _mark_of_all(client, server[0])
    return max([_further(value, copy) for copy in range(1, server[3] + 1)])


def _mark_of_all(client, name):
    """Return the value with which the marks of all copies of a server go on."""
    value = _further(7, client)
    for letter in name:
        value = _further(value, ord(letter))
    return value


def _further(value, number):
    return (value * 1000003 + number + 1) % MARKS


def by_marks(service, client):
    """Return the place of the eligible server with the greatest rank for a client, or None."""
    chosen, most = None, 0
    for place in eligible(service):
        server = service[1][place]
        found = rank(client, server)
        if chosen is None or found > most or found == most and server[0] < service[1][chosen][0]:
            chosen, most = place, found
    return chosen


def empty_state():
    """Return the state of services at the beginning."""
    return {"dues": {}, "open": {}, "clients": {}, "kept": {}}


def _copied(state):
    """Return a state with dicts of its own."""
    own = {}
    for name in ("dues", "open", "clients", "kept"):
        rows = state[name]
        own[name] = {key: rows[key] for key in rows}
    return own


def swept_clients(services, state, moment):
    """Return the state without the clients that are not kept at a moment."""
    state, holds = _copied(state), {service[0]: service[3] for service in services}
    kept = state["kept"]
    state["kept"] = {key: kept[key] for key in kept if _is_kept(holds.get(key[0]), state, key, moment)}
    return state


def _is_kept(hold, state, key, moment):
    """Return whether a pair of a service with a hold and a client is kept at a moment."""
    found = state["kept"].get(key)
    if hold is None or found is None:
        return False
    return (key[0], key[1], found[0]) in state["clients"] or moment < found[1] + hold


def look(service, state, client, moment):
    """Return the place of the server that a client would get of a service, or None."""
    return _choice(service, state, client, moment)[0]


def _choice(service, state, client, moment):
    """Return the pair of the place of the server for a client, or None, and what is due behind a turn, or None."""
    place = _kept_place(service, state, client, moment)
    if place is not None or len(eligible(service)) == 0:
        return (place, None)
    if service[2] == "turns":
        return _by_turns(service, state)
    if service[2] == "least":
        return (_by_least(service, state), None)
    return (by_marks(service, client), None)


def _kept_place(service, state, client, moment):
    """Return the place of the eligible server with which a client is kept, or None."""
    key = (service[0], client)
    if not _is_kept(service[3], state, key, moment):
        return None
    name = state["kept"][key][0]
    for place in eligible(service):
        if service[1][place][0] == name:
            return place
    return None


def _by_turns(service, state):
    """Return the pair of the place whose turn it is, and of the row of the servers and what is due to them then."""
    places = eligible(service)
    row = tuple([(service[1][place][0], service[1][place][3]) for place in places])
    last, dues = state["dues"].get(service[0], (None, ()))
    if last != row:
        dues = tuple([0 for _ in row])
    dues = [due + weight for due, (_, weight) in zip(dues, row)]
    turn = dues.index(max(dues))
    dues[turn] -= sum([weight for _, weight in row])
    return (places[turn], (row, tuple(dues)))


def _by_least(service, state):
    """Return the place of the eligible server with the fewest open things for its weight, the first one of such."""
    chosen = None
    for place in eligible(service):
        if chosen is None or _load(service, state, place, chosen) < _load(service, state, chosen, place):
            chosen = place
    return chosen


def _load(service, state, place, other):
    """Return how many things are open at a server, times the weight of the one with which it is compared."""
    many = state["open"].get((service[0], service[1][place][0]), 0)
    return many * service[1][other][3]


def take(services, index, state, client, moment):
    """Return the pair of the place of the server that a client gets of a service, or None, and the state behind it."""
    service = services[index]
    state = swept_clients(services, state, moment)
    place, due = _choice(service, state, client, moment)
    if due is not None:
        state["dues"][service[0]] = due
    if place is not None:
        server = service[1][place][0]
        _count(state["open"], (service[0], server), 1)
        _count(state["clients"], (service[0], client, server), 1)
        _keep(service, state, client, server, moment)
    return (place, state)


def _count(counts, key, change):
    """Change how many things are open by a key; this changes the dict."""
    many = counts.get(key, 0) + change
    if many > 0:
        counts[key] = many
    elif key in counts:
        del counts[key]


def _keep(service, state, client, server, moment):
    """Keep a client with a server, if there is a hold and room; this changes the state."""
    kept, key = state["kept"], (service[0], client)
    if service[3] is None or key not in kept and len(kept) >= MOST_KEPT:
        return
    # Who is kept with this server stays so from the first time on.
    if key not in kept or kept[key][0] != server:
        kept[key] = (server, moment)


def ended(state, service, server, client, moment):
    """Return the state behind the end of something that a server of a service had of a client."""
    state = _copied(state)
    _count(state["open"], (service, server), -1)
    _count(state["clients"], (service, client, server), -1)
    kept, key = state["kept"], (service, client)
    if key in kept and kept[key][0] == server:
        kept[key] = (server, max(kept[key][1], moment))
    return state
