"""Searching: the first of the shortest lists of deeds that lead from a state to a wanted one."""


def first_deeds(start, steps, is_wanted):
    """The first list, by length, then as lists, that leads to a wanted state, None if there is none.

    A state can be a key; steps gives the list of the pairs of a deed and of the state behind it, by the deeds."""
    found = {start: []}
    edge = [start]
    while edge:
        # The states stand in the sequence of the first lists that lead to them.
        for state in edge:
            if is_wanted(state):
                return found[state]
        edge = _further(found, edge, steps)
    return None


def _further(found, edge, steps):
    further = []
    for state in edge:
        for deed, behind in steps(state):
            if behind not in found:
                found[behind] = found[state] + [deed]
                further.append(behind)
    return further
