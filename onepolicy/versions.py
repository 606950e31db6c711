"""Policies as values, and which of them are right (points 700 to 702)."""

from onepolicy.addresses import is_plain
from onepolicy.balance import fault_of_services
from onepolicy.bindings import fault_pool
from onepolicy.boxes import is_number
from onepolicy.fields import whole_within
from onepolicy.flows import fault_times
from onepolicy.ground import is_inside
from onepolicy.headers import fault_headers, fault_trusted
from onepolicy.limits import fault_of_limits
from onepolicy.routes import fault_errors, fault_routes
from onepolicy.tables import fault_of_table

KEYS = ("rules", "services", "limits", "times", "room", "routes", "headers", "errors", "trusted", "keep")

MOST_ROOM = 256

# How many parts the fates of rules have.
PARTS_OF_FATE = {"drop": 1, "refuse": 1, "pass": 1, "source": 2, "forward": 3}


def values_of_policy(policy):
    """Return the tuple of the values of a policy, in the order of its keys."""
    return tuple([policy[key] for key in KEYS])


def policy_of(values):
    """Return the policy that has the values of a tuple."""
    return {key: value for key, value in zip(KEYS, values)}


def fault_of_policy(ground, policy):
    """Return the first fault (word, place) of a value of any kind, or None if it is a right policy."""
    if not _has_form(policy):
        return ("form", None)
    if not whole_within(policy["room"], 1, MOST_ROOM):
        return ("room", None)
    if policy["keep"] not in ("stay", "cut"):
        return ("keep", None)
    if fault_times(policy["times"]) is not None:
        return ("times", None)
    found = _turned(fault_of_limits(policy["limits"])) or _turned(fault_of_services(policy["services"]))
    found = found or _fault_of_places(ground, policy["services"]) or _fault_of_rules(policy["rules"])
    found = found or _fault_of_fates(ground, policy)
    if found is not None:
        return found
    return fault_routes(policy) or fault_headers(policy) or fault_trusted(policy) or fault_errors(policy)


def _turned(found):
    """Return the pair of the word and the place for a pair (place, word), or None."""
    return None if found is None else (found[1], found[0])


def _are_tuples(value, parts):
    """Return whether a value of any kind is a tuple of tuples of so many parts."""
    return isinstance(value, tuple) and all([isinstance(row, tuple) and len(row) == parts for row in value])


def _has_form(policy):
    """Return whether a value of any kind has the form of a policy."""
    if not isinstance(policy, dict) or len(policy) != len(KEYS) or not all([key in policy for key in KEYS]):
        return False
    if not all([key in ("room", "keep") or isinstance(policy[key], tuple) for key in KEYS]):
        return False
    rules = policy["rules"]
    if len(rules) != 2 or not _are_tuples(rules[0], 3) or not isinstance(rules[1], tuple) or len(rules[1]) != 2:
        return False
    if not _are_tuples(policy["limits"], 4) or not _are_tuples(policy["services"], 4):
        return False
    return all([_are_tuples(service[1], 5) for service in policy["services"]])


def _fault_of_places(ground, services):
    for index, service in enumerate(services):
        if not all([_has_place(ground, server[1], server[2]) for server in service[1]]):
            return ("place", index)
    return None


def _has_place(ground, address, port):
    """Return whether values of any kind are a plain inside address and a port."""
    if not is_number(address) or not is_plain(address) or not is_inside(ground, address):
        return False
    return whole_within(port, 1, 65535)


def _fault_of_rules(table):
    found = fault_of_table(table)
    return None if found is None else (found[2], found[:2])


def _fault_of_fates(ground, policy):
    """Return the first fault of what the rules of a table without faults tell, the last one among them."""
    rules, last = policy["rules"]
    services = [service[0] for service in policy["services"]]
    limits = [limit[0] for limit in policy["limits"]]
    ends = [rule[1:] for rule in rules] + [last]
    for index, (fate, names) in enumerate(ends):
        word = _word_of_fate(ground, services, fate)
        if word is None and not all([name in limits for name in names]):
            word = "no limit"
        if word is not None:
            return (word, index)
    return None


def _word_of_fate(ground, services, fate):
    """Return the word of the fault of a fate, a value of any kind, or None."""
    if not isinstance(fate, tuple) or len(fate) == 0 or not isinstance(fate[0], str):
        return "fate"
    if len(fate) != PARTS_OF_FATE.get(fate[0], 0):
        return "fate"
    is_forward = fate[0] == "forward"
    pool = fate[-1] if is_forward or fate[0] == "source" else None
    if not _may_be_pool(pool) and not (pool is None and fate[0] != "source"):
        return "fate"
    if is_forward and fate[1] not in services:
        return "no service"
    return None if pool is None else fault_pool(ground, pool)


def _may_be_pool(value):
    return isinstance(value, tuple) and len(value) == 4 and value[0] == "pool"
