"""Points, the fields that they have, and boxes of points (points 300 and 310)."""

# The fields of a point: side, kind, source, port, target, port.
GREATEST = (1, 255, 4294967295, 65535, 4294967295, 65535)


def is_number(value):
    """Return True for an integer that is no truth."""
    return isinstance(value, int) and not isinstance(value, bool)


def whole_box():
    """Return the box that has all points."""
    return tuple([(0, greatest) for greatest in GREATEST])


def has_point(box, point):
    """Return whether a box has a point."""
    return all([low <= number <= high for (low, high), number in zip(box, point)])


def least_point(box):
    """Return the least point of a box."""
    return tuple([low for low, high in box])


def parted(box, field, value):
    """Return the pair of the boxes of the points below a value in a field and of the others."""
    low, high = box[field]
    below = box[:field] + ((low, value - 1),) + box[field + 1:]
    others = box[:field] + ((value, high),) + box[field + 1:]
    return (below, others)
