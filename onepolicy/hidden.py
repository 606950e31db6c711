"""The insides are hidden: what two plain workers tell outside (points 590 and 591)."""

from onepolicy.plain import Plain


def twins(ground, w, versions, others, rows):
    """Return (number, told, other) for the first event at which two plain workers tell not the same, or None."""
    one, another = Plain(ground, w, None), Plain(ground, w, None)
    for number, moment, version, event in rows:
        told = _told_outside(one.take(versions, number, moment, version, event)[0])
        other = _told_outside(another.take(others, number, moment, version, event)[0])
        if told != other:
            return (number, told, other)
    return None


def _told_outside(outputs):
    return [output for output in outputs if output[0] in ("tell", "close")]
