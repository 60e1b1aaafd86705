"""Repeating: so many times one, with few steps."""


def many_times(one, times, none, joined):
    """What a function makes of so many times one, joined one after the other; none is that of no times."""
    made = none
    power = one
    left = times
    while left > 0:
        if left % 2 == 1:
            made = joined(made, power)
        power = joined(power, power)
        left //= 2
    return made


def doubled(times):
    """1, doubled so many times."""
    made = 1
    for _ in range(times):
        made *= 2
    return made
