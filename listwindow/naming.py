"""Names of places."""

LETTERS = "abcdefghijklmnopqrstuvwxyz"


def is_name(name):
    return 1 <= len(name) <= 8 and all([letter in LETTERS for letter in name])


def first_free_name(taken):
    """The first name, by length, then as strings, that is none of those that are taken."""
    names = [""]
    free = []
    while not free:
        names = [name + letter for name in names for letter in LETTERS]
        free = [name for name in names if name not in taken]
    return free[0]
