"""Plans that are carried out, and edges that come to rest (points 746 and 747)."""

from onepolicy.errors import Misstep

# How many parts the rows of plans have.
PLAN_ROWS = {"arrive": 3, "bring": 2, "fall": 2}


def realize(edge, plan):
    """Return the list of steps that carry out a plan from an edge at rest; raise Misstep or Wrong."""
    edge, steps = edge.twin(), []
    for row in plan:
        step = _step_of(row)
        edge.step(step)
        steps.append(_copied(step))
        steps.extend(_settle(edge))
    return steps


def _step_of(row):
    """Return the step that begins a row of a plan; raise Misstep for a value that is none."""
    if not isinstance(row, tuple) or len(row) == 0 or not isinstance(row[0], str):
        raise Misstep("form")
    if len(row) != PLAN_ROWS.get(row[0], 0):
        raise Misstep("form")
    return ("anew", row[1]) if row[0] == "fall" else row


def _copied(step):
    """Return a step that was made, with lists and dicts of its own."""
    if step[0] == "bring":
        return ("bring", {**step[1]})
    if step[0] == "arrive":
        parts = [list(part) if isinstance(part, list) else part for part in step[2]]
        return ("arrive", step[1], tuple(parts))
    return step


def settle(edge):
    """Return the list of steps that bring an edge to rest."""
    return _settle(edge.twin())


def _settle(edge):
    """Return the list of steps that bring an edge to rest; this makes them."""
    steps = []
    step = _next_step(edge)
    while step is not None:
        edge.step(step)
        steps.append(step)
        step = _next_step(edge)
    return steps


def _next_step(edge):
    """Return the next step to rest, or None if an edge is at rest."""
    links = edge.links()
    for a, b in links:
        if len(links[(a, b)]) > 0:
            return ("deliver", a, b, 0)
    kept = edge.kept()
    for w, (life, spoken, goes_on) in enumerate(edge.lives()):
        # Until the door knows of a life, nothing that it sends would be taken.
        if spoken < life or len(kept[(w, "door")][0]) > 0:
            return ("again", w, "door")
        if len(kept[("door", w)][0]) > 0:
            return ("again", "door", w)
    return None
