"""Comparing cells."""


def compared(one, other):
    """1 if the one is greater than the other, -1 if it is less, 0 if they are equal."""
    if one == other:
        return 0
    return 1 if one > other else -1
