"""Health: what checks and orders make of servers (point 458)."""


def observed(states, rise, fall, results):
    """Return the states behind a list of pairs (name, whether the result was good)."""
    states = {name: states[name] for name in states}
    for name, good in results:
        states[name] = _observed_one(states.get(name, ("up", 0)), rise, fall, good)
    return states


def _observed_one(state, rise, fall, good):
    health, many = state
    if health == "draining" or good == (health == "up"):
        return (health, 0)
    if many + 1 < (fall if health == "up" else rise):
        return (health, many + 1)
    return ("down" if health == "up" else "up", 0)


def ordered(states, name, health):
    """Return the states behind an order that gives a server a health."""
    states = {other: states[other] for other in states}
    states[name] = (health, 0)
    return states


def with_healths(services, states):
    """Return the services with the healths of states, in which a name that is not there is up."""
    return tuple([
        (name, tuple([_with_health(server, states) for server in servers]), choice, hold)
        for name, servers, choice, hold in services
    ])


def _with_health(server, states):
    return server[:4] + (states.get(server[0], ("up", 0))[0],)
