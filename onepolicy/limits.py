"""Limits: who may ask how often (points 400 to 408).

What is kept for a key: of a bucket the pair (the moment at which it was full last, the costs let since), which tells
its level at every later moment until it is full again; of a window the tuple of the pairs (moment, costs let then).
"""

from onepolicy.fields import first_wrong, whole_within

MOST_ROWS = 16
MOST_KEYS = 512
MOST_NUMBER = 1000000
LETTERS = "abcdefghijklmnopqrstuvwxyz"

# The least number that each kind may have, by their places.
LEAST_NUMBERS = {"bucket": (0, 1, 0), "window": (0, 1), "open": (0,)}


def is_name(name):
    """Return whether a value of any kind is a text of 1 to 10 small letters."""
    if not isinstance(name, str) or not 1 <= len(name) <= 10:
        return False
    return all([sign in LETTERS for sign in name])


def fault_of_limits(rows):
    """Return the first fault of a tuple of quadruples, a pair (index, word), or None."""
    if len(rows) > MOST_ROWS:
        return (MOST_ROWS, "limits")
    for index, row in enumerate(rows):
        name, kind, numbers, key = row
        word = first_wrong([
            ("name", is_name(name)),
            ("twice", name not in [other[0] for other in rows[:index]]),
            ("kind", kind in ("bucket", "window", "open")),
            ("numbers", _are_numbers(kind, numbers)),
            ("key", _is_key(key)),
        ])
        if word is not None:
            return (index, word)
    return None


def _are_numbers(kind, numbers):
    # Of a kind that is none the numbers are not asked: it is told ahead of them.
    if kind not in ("bucket", "window", "open") or not isinstance(numbers, tuple):
        return False
    leasts = LEAST_NUMBERS[kind]
    if len(numbers) != len(leasts):
        return False
    return all([whole_within(number, least, MOST_NUMBER) for number, least in zip(numbers, leasts)])


def _is_key(key):
    if not isinstance(key, tuple):
        return False
    words = ["outside", "inside", "service", "kind"] + [f"outside {bits}" for bits in range(1, 32)]
    if not all([word in words for word in key]):
        return False
    return len({word: True for word in key}) == len(key)


def key_of(row, asker):
    """Return the key of a limit for who asks."""
    return tuple([_told_by(word, asker) for word in row[3]])


def _told_by(word, asker):
    kind, outside, inside, service = asker
    if word == "kind":
        return kind
    if word == "inside":
        return inside
    if word == "service":
        return service
    if word == "outside" or outside is None:
        return outside
    bits = int(word.split(" ")[1])
    return outside >> (32 - bits)


def swept(rows, states, moment):
    """Return the states of the limits of a tuple without what is forgotten at a moment."""
    found = {}
    for row in rows:
        if row[0] in states and row[1] != "open":
            kept = _swept_keys(row, states[row[0]], moment)
            if len(kept) > 0:
                found[row[0]] = kept
    return found


def _swept_keys(row, keys, moment):
    found = {}
    for key in keys:
        if row[1] == "bucket":
            state = _swept_bucket(row[2], keys[key], moment)
        else:
            state = _swept_window(row[2], keys[key], moment)
        if state is not None:
            found[key] = state
    return found


def _swept_bucket(numbers, state, moment):
    rate, parts, _ = numbers
    since, costs = state
    return None if rate * (moment - since) >= costs * parts else state


def _swept_window(numbers, state, moment):
    state = tuple([pair for pair in state if pair[0] > moment - numbers[1]])
    return state if len(state) > 0 else None


def kept_keys(rows, states, moment):
    """Return a dict from the names of buckets and windows to how many keys they keep at a moment."""
    kept = swept(rows, states, moment)
    return {row[0]: len(kept.get(row[0], {})) for row in rows if row[1] != "open"}


def ask(rows, states, holds, moment, asker, cost):
    """Ask the limits of a tuple in order.

    Return ("let", states, list of pairs (limit, key)), or ("limited", name, what is told, when to ask again).
    """
    kept = swept(rows, states, moment)
    refusals = []
    for row in rows:
        refusal = _refusal(row, kept.get(row[0], {}), holds, moment, key_of(row, asker), cost)
        if refusal is not None:
            refusals.append((row[0],) + refusal)
    if len(refusals) > 0:
        name, told, _ = refusals[0]
        return ("limited", name, told, _again([again for _, _, again in refusals]))
    return ("let", _taken(rows, states, kept, moment, asker, cost), _opened(rows, asker))


def _again(agains):
    """Return when all limits that refuse would let a request, from when each one would."""
    if ("never",) in agains:
        return ("never",)
    if None in agains:
        return None
    return max(agains)


# A refusal is a pair of what is told, and a moment, ("never",) or None.


def _refusal(row, keys, holds, moment, key, cost):
    """Return the refusal of a limit, or None if it lets a request."""
    _, kind, numbers, _ = row
    if kind == "open":
        return _refusal_of_open(row, holds, key)
    if key not in keys and len(keys) >= MOST_KEYS:
        # The most of a window stands first, the room of a bucket last.
        most = numbers[0] if kind == "window" else numbers[2]
        return ("keys", ("never",) if most < cost else None)
    if kind == "bucket":
        return _refusal_of_bucket(numbers, keys.get(key, (moment, 0)), moment, cost)
    return _refusal_of_window(numbers, keys.get(key, ()), moment, cost)


def _refusal_of_open(row, holds, key):
    many, most = len([held for held in holds if held == (row, key)]), row[2][0]
    if many < most:
        return None
    return (("open", many), ("never",) if most == 0 else None)


def _refusal_of_bucket(numbers, state, moment, cost):
    rate, parts, room = numbers
    since, costs = state
    # So much must have come in since then for the level to be at least the cost, both in parts.
    due = (costs + cost - room) * parts
    if rate * (moment - since) >= due:
        return None
    if cost > room or rate == 0:
        return (state, ("never",))
    return (state, since + (due + rate - 1) // rate)


def _refusal_of_window(numbers, state, moment, cost):
    most, width = numbers
    costs = sum([let for _, let in state])
    if costs + cost <= most:
        return None
    told = (moment - width + 1, costs)
    if cost > most:
        return (told, ("never",))
    again = moment
    for at, let in state:
        if costs + cost > most:
            costs -= let
            again = at + width
    return (told, again)


def _taken(rows, states, kept, moment, asker, cost):
    """Return the states behind a request that is let; those of limits that are not asked stay."""
    found = _copied(states, list(states))
    for row in rows:
        if row[1] != "open":
            keys, key = kept.get(row[0], {}), key_of(row, asker)
            found[row[0]] = {other: keys[other] for other in keys}
            found[row[0]][key] = _charged(row[1], keys.get(key), moment, cost)
    return found


def _charged(kind, state, moment, cost):
    """Return what is kept for a key, None if it is new, behind a request that is let."""
    if kind == "bucket":
        since, costs = (moment, 0) if state is None else state
        return (since, costs + cost)
    state = () if state is None else state
    if len(state) > 0 and state[-1][0] == moment:
        return state[:-1] + ((moment, state[-1][1] + cost),)
    return state + ((moment, cost),)


def _opened(rows, asker):
    return [(row, key_of(row, asker)) for row in rows if row[1] == "open"]


def turned(states, rows, others):
    """Return the states behind going from the limits of a version to those of another one."""
    return _copied(states, [row[0] for row in rows if row in others and row[0] in states])


def _copied(states, names):
    """Return the states of the limits with these names, in dicts of their own."""
    return {name: {key: states[name][key] for key in states[name]} for name in names}
