"""Budgets: what scripts cost of the turns that a script may have.

In these scripts a deed ("down", number) stands for the turns of one moment that scroll the page: the first of them
takes the window to its end, by this number. A script costs by how much less it can scroll the page than as many of the
longest turns as a script may have deeds: each of its deeds costs one of them, a deed ("down", number) what the window
takes."""

MOST_DEEDS = 60
# A turn has at most 30 digits.
LONGEST = 999999999999999999999999999999


def cost_of(script):
    return sum([deed[1] if deed[0] == "down" else LONGEST for deed in script])


def is_within(script, page):
    """True if the script can scroll the page so far; one without a down leaves it at 0."""
    return cost_of(script) + page <= MOST_DEEDS * LONGEST


def in_one_turn(script, page):
    """The script with one turn, however long, instead of its one down."""
    return [("turn", deed[1] + page) if deed[0] == "down" else deed for deed in script]


def in_turns(script, page):
    """The script with the turns that scroll the page so far: each down is one turn, and the first one is all the others
    that are needed, too."""
    later = [deed[1] for deed in script if deed[0] == "down"]
    left = page
    turned = []
    for deed in script:
        if deed[0] == "down":
            later = later[1:]
            here = max(left - sum([LONGEST - number for number in later]), 0)
            left -= here
            turned.extend(_turns_by(deed[1] + here))
        else:
            turned.append(deed)
    return turned


def _turns_by(number):
    """The fewest turns that are this together."""
    longest = [("turn", LONGEST) for _ in range(number // LONGEST)]
    rest = number - LONGEST * len(longest)
    return longest + ([("turn", rest)] if rest > 0 else [])
