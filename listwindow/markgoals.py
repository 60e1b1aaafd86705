"""Mark goals: the clicks that can help to mark what is wanted, and how many are needed at least.

What is marked is a tuple of the marks and the anchor, and is known by its number."""

from listwindow.choices import all_choices
from listwindow.comparing import apart
from listwindow.marks import marked
from listwindow.numbering import Numbers


class MarkGoal:
    def __init__(self, rows, marks, anchor):
        self._numbers = Numbers()
        self._clicks = {}
        self.wanted = self._numbers.number_of((tuple(marks), anchor))
        self.first = self._numbers.number_of(((), None))
        self._needed = {self.wanted: 0}
        self._look_back(list(range(rows)))

    def _look_back(self, rows):
        """Finds out how many clicks lead to what is wanted, if any rows could be there, in any order."""
        edge = [self.wanted]
        while edge:
            number = self._needed[edge[0]] + 1
            further = []
            for before in [told for marking in edge for told in self._one_click_before(rows, marking)]:
                if before not in self._needed:
                    self._needed[before] = number
                    further.append(before)
            edge = further

    def _one_click_before(self, rows, marking):
        marks, anchor = self._numbers.key_of(marking)
        if anchor is None:
            return []
        clicked = [(apart(marks, [anchor]), before) for before in [None] + rows]
        alike = [row for row in rows if row != anchor and (row in marks) == (anchor in marks)]
        ranged = [(apart(marks, others), anchor) for others in all_choices(alike)]
        return [self._numbers.number_of((tuple(before), last)) for before, last in clicked + ranged]

    def needed(self, marking):
        """No fewer clicks than these lead to what is wanted."""
        return self._needed[marking]

    def clicks(self, there, marking):
        """The clicks among some rows that change what is marked, and behind which it can still become what is wanted,
        each with what is marked behind it."""
        key = (there, marking)
        if key not in self._clicks:
            clicked = self._all_clicked(list(there), marking)
            self._clicks[key] = [(click, behind) for click, behind in clicked
                                 if behind != marking and behind in self._needed]
        return self._clicks[key]

    def _all_clicked(self, there, marking):
        marks, anchor = self._numbers.key_of(marking)
        clicked = [((word, at), marked(there, list(marks), anchor, [(word, at)]))
                   for word in ("click", "range")
                   for at in range(len(there))]
        return [(click, self._numbers.number_of((tuple(made), last))) for click, (made, last) in clicked]
