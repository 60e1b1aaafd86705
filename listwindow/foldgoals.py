"""Fold goals: the deeds on groups that lead to the folded values of a column."""

from listwindow.comparing import apart
from listwindow.searching import first_deeds


class FoldGoal:
    def __init__(self, cells, wanted):
        self._cells = cells
        self._wanted = wanted
        self._needed = {}

    def is_wanted(self, folded):
        return folded == self._wanted

    def steps(self, folded, values):
        """The deeds that can help where the groups have some values, each with the folded values behind it."""
        folds = [(("fold", value), apart(folded, [value])) for value in self._cells]
        others = [value for value in values if value not in folded]
        ones = [(("one", value), apart(list(folded) + others, [value])) for value in values]
        return [(deed, tuple(behind)) for deed, behind in [(("all",), [])] + folds + ones]

    def needed(self, folded, several):
        """The number of the fewest deeds, if for each of them the values of the groups may be those of one of several
        tuples."""
        key = (folded, several)
        if key not in self._needed:
            self._needed[key] = len(first_deeds(
                folded,
                lambda state: [step for values in several for step in self.steps(state, values)],
                lambda state: state == self._wanted))
        return self._needed[key]
