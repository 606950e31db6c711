"""Whether values of any kind are the same."""


def is_same(one, other):
    """Return whether two values are the same, in which a truth is no number."""
    # On a pile, as tuples may be nested deeper than calls may be.
    pile = [(one, other)]
    while len(pile) > 0:
        left, right = pile.pop()
        if isinstance(left, tuple) and isinstance(right, tuple):
            if len(left) != len(right):
                return False
            pile.extend(list(zip(left, right)))
        elif isinstance(left, bool) != isinstance(right, bool) or isinstance(left, int) != isinstance(right, int):
            return False
        elif left != right:
            return False
    return True
