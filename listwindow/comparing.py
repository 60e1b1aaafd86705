"""Comparing cells, and lists of values."""


def compared(one, other):
    """1 if the one is greater than the other, -1 if it is less, 0 if they are equal."""
    if one == other:
        return 0
    return 1 if one > other else -1


def apart(one, other):
    """The values, ascending, that stand in just one of two lists."""
    return sorted([value for value in one if value not in other] + [value for value in other if value not in one])
