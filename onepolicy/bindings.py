"""Pools, and the ends that bindings of a book give to sources (points 160 to 163)."""

from onepolicy.boxes import is_number
from onepolicy.fields import whole_within, within
from onepolicy.ground import is_ascending, is_own

# An outside end that was given back rests for so many moments.
REST = 60


def fault_pool(ground, pool):
    """Return the fault of a pool, or None."""
    _, addresses, low, high = pool
    if not _are_addresses(ground, addresses):
        return "addresses"
    if not whole_within(high, 32768, 65535) or not whole_within(low, 32768, high):
        return "ports"
    return None


def _are_addresses(ground, addresses):
    if not isinstance(addresses, tuple) or not within(len(addresses), 1, 64):
        return False
    # Only integers can be asked whether they ascend.
    if not all([is_number(address) for address in addresses]) or not is_ascending(addresses):
        return False
    return all([is_own(ground, address) for address in addresses])


def free_ports(book, moment, pool, kind, address):
    """Return the list of the free ports of a pool, ascending, for a swept book."""
    if moment < book["quiet"]:
        return []
    bound, workers = _bound_ports(book, kind, address), book["ground"][3]
    ports = range(_first_port(book, pool), pool[3] + 1, workers)
    return [port for port in ports if _is_free(book, moment, bound, kind, address, port)]


def _least_free(book, moment, pool, kind, address):
    """Return the least free port of a pool, or None."""
    if moment < book["quiet"]:
        return None
    bound, workers = _bound_ports(book, kind, address), book["ground"][3]
    for port in range(_first_port(book, pool), pool[3] + 1, workers):
        if _is_free(book, moment, bound, kind, address, port):
            return port
    return None


def _first_port(book, pool):
    """Return the least port from the low one of a pool on that is of the book's part."""
    return pool[2] + (book["part"] - pool[2]) % book["ground"][3]


def _bound_ports(book, kind, address):
    """Return a dict that has the ports of an outside address in the bindings of a kind."""
    bindings = book["bindings"]
    return {bindings[key][1]: True for key in bindings if key[1] == kind and bindings[key][0] == address}


def _is_free(book, moment, bound, kind, address, port):
    return port not in bound and book["resting"].get((kind, address, port), moment) <= moment


def end_for(book, moment, pool, kind, address, port):
    """Return the pair (address, port) of the end for a source in a swept book, or None."""
    found = book["bindings"].get((pool, kind, address, port))
    if found is not None:
        return (found[0], found[1])
    outside = _paired(book, pool, address)
    if outside is not None:
        choices = [outside]
    else:
        choices = _by_many(book, pool)
    for choice in choices:
        free = _least_free(book, moment, pool, kind, choice)
        if free is not None:
            return (choice, free)
    return None


def _paired(book, pool, address):
    """Return the outside address that a pool gave to an inside address, or None."""
    bindings = book["bindings"]
    for key in bindings:
        if key[0] == pool and key[2] == address:
            return bindings[key][0]
    return None


def _by_many(book, pool):
    """Return the addresses of a pool, those with the fewest inside addresses first, then the least ones."""
    bindings = book["bindings"]
    rows = []
    for outside in pool[1]:
        inside = {key[2]: True for key in bindings if key[0] == pool and bindings[key][0] == outside}
        rows.append((len(inside), outside))
    return [outside for many, outside in sorted(rows)]


def take_end(book, key, end):
    """Give the binding with a key one holder more, a new one this outside end; this changes the book."""
    bindings = book["bindings"]
    holders = bindings[key][2] if key in bindings else 0
    bindings[key] = (end[0], end[1], holders + 1)


def give_back(book, moment, key):
    """Give the binding with a key one holder less at a moment (point 163); this changes the book."""
    bindings = book["bindings"]
    address, port, holders = bindings[key]
    if holders > 1:
        bindings[key] = (address, port, holders - 1)
    else:
        del bindings[key]
        book["resting"][(key[1], address, port)] = moment + REST
