"""Windows: live windows that take back and do again."""

from listwindow.errors import InvalidDeed, InvalidNumber, NothingToUndo
from listwindow.moments import check_window, first_moment, moments_from, place_here
from listwindow.seen import seen_lines


class Window:
    """A window onto the lists of a house. What is done, and what was taken back, stand in two lists: each entry is a
    tuple of a script and of the moment behind it, the one to do again first at the end."""

    def __init__(self, house, height, room):
        check_window(height, room)
        self._house = house
        self._height = height
        self._room = room
        self._reading = False
        self._first = first_moment(house)
        self._done = []
        self._undone = []

    def __call__(self, deed):
        return self._do([deed])

    def run(self, script):
        return self._do(script)

    def _do(self, script):
        moments = moments_from(self._moment(), self._height, self._room, script)
        self._done.append((list(script), moments[-1]))
        self._undone = []
        return self.seen()

    def _moment(self):
        return self._done[-1][1] if self._done else self._first

    def undo(self):
        if not self._done:
            raise NothingToUndo(0)
        self._undone.append(self._done.pop())

    def redo(self):
        if not self._undone:
            raise NothingToUndo(0)
        self._done.append(self._undone.pop())

    def to(self, number):
        if not 0 <= number <= len(self._done) + len(self._undone):
            raise InvalidNumber(number)
        while len(self._done) > number:
            self.undo()
        while len(self._done) < number:
            self.redo()
        return self.seen()

    @property
    def here(self):
        return self.trail[-1]

    @property
    def trail(self):
        trail, _, _ = self._moment()
        return list(trail)

    @property
    def marks(self):
        _, _, marks, _, _ = place_here(self._moment())
        return list(marks)

    @property
    def scrolls(self):
        _, _, page = self._moment()
        _, _, _, _, scroll = place_here(self._moment())
        return (scroll, page)

    def view(self):
        _, view, _, _, _ = place_here(self._moment())
        return view

    def seen(self):
        return seen_lines(self.view(), self._height, self.scrolls[0])

    def log(self):
        return [deed for script, _ in self._done for deed in script]

    def twin(self):
        other = self._anew()
        other._done = list(self._done)
        other._undone = list(self._undone)
        return other

    def _anew(self):
        return Window(self._house, self._height, self._room)

    def __len__(self):
        return len(self._done)

    def __eq__(self, other):
        return (isinstance(other, Window) and self._reading == other._reading and self._house == other._house
                and self._height == other._height and self._room == other._room and self._moment() == other._moment())


class Reader(Window):
    """A window on which nothing can be marked."""

    def __init__(self, house, height, room):
        Window.__init__(self, house, height, room)
        self._reading = True

    def __call__(self, deed):
        _check_no_marking([deed])
        return self._do([deed])

    def run(self, script):
        _check_no_marking(script)
        return self._do(script)

    def _anew(self):
        return Reader(self._house, self._height, self._room)


def _check_no_marking(script):
    for deed in script:
        if deed[:1] in (("click",), ("range",)):
            raise InvalidDeed(deed)
