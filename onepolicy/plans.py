"""Plans: what the fate of a packet that opens a flow means for this flow (point 171)."""

from onepolicy.fields import first_wrong
from onepolicy.ground import is_inside, is_own
from onepolicy.ways import way_of

# From this port on the own ends are those of pools.
FIRST_OF_POOLS = 32768


def planned(ground, fate, times, packet, chosen):
    """Return the plan (target, pool, times) for a packet that may open a flow, or ("drop", word)."""
    if fate[0] == "forward":
        return _forwarded(ground, fate[2], times, packet, chosen)
    _, source, _, target, _ = way_of(packet)
    to_source = fate[0] == "source"
    word = first_wrong([
        ("own", not is_own(ground, target)),
        ("source", not to_source or is_inside(ground, source)),
    ])
    if word is not None:
        return ("drop", word)
    return (None, fate[1] if to_source else None, times)


def _forwarded(ground, pool, times, packet, chosen):
    kind, source, _, target, port = way_of(packet)
    from_inside = is_inside(ground, source)
    word = first_wrong([
        ("target", is_own(ground, target) and port < FIRST_OF_POOLS),
        # Without a pool the answers of an inside server would not come by the edge.
        ("hairpin", not from_inside or pool is not None),
        ("none", chosen is not None),
    ])
    if word is not None:
        return ("drop", word)
    end = (chosen[0], 0) if kind == "echo" else chosen
    return (end, pool if from_inside else None, times)
