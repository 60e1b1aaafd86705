"""Choosing some entries of a list, the shorter choices first."""


def chosen(entries, size):
    """All ways to take so many entries, in their sequence, ordered by where the entries stand."""
    if size == 0:
        return [[]]
    return [[entry] + rest
            for at, entry in enumerate(entries)
            for rest in chosen(entries[at + 1:], size - 1)]


def all_choices(entries):
    """All ways to take some entries, by length, then as chosen orders them."""
    return [choice for size in range(len(entries) + 1) for choice in chosen(entries, size)]


def first_choice(entries, fits):
    """The first of all choices that a function accepts, None if it accepts none."""
    # One length after the other: a short choice is found without making all longer ones.
    for size in range(len(entries) + 1):
        for choice in chosen(entries, size):
            if fits(choice):
                return choice
    return None
