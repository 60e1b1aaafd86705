"""Houses: places with names, each with a table."""

from listwindow.checks import check_trail
from listwindow.errors import InvalidNumber, UnknownPlace


class House:
    """Places in their order. A house never changes; its methods return houses of their own, and it is where such a
    house is made that wrong names, and names that another place has, are refused."""

    def __init__(self, places):
        if not places:
            raise InvalidNumber(0)
        check_trail([name for name, table in places])
        self._places = list(places)

    @property
    def names(self):
        return [name for name, table in self._places]

    def __getitem__(self, name):
        for told, table in self._places:
            if told == name:
                return table
        raise UnknownPlace(name)

    def __iter__(self):
        raise TypeError("a house is not iterated over")

    def __len__(self):
        return len(self._places)

    def __eq__(self, other):
        return isinstance(other, House) and self._places == other._places

    def __add__(self, other):
        if not isinstance(other, House):
            return NotImplemented
        # The names of the one stand ahead, so the first that stood before is a name of the other.
        return House(self._places + other._places)

    def with_table(self, name, table):
        if name not in self.names:
            return House(self._places + [(name, table)])
        return House([(told, table if told == name else held) for told, held in self._places])

    def without(self, name):
        _check_known(self, name)
        return House([place for place in self._places if place[0] != name])

    def renamed(self, name, other):
        _check_known(self, name)
        return House([(other if told == name else told, table) for told, table in self._places])


def _check_known(house, name):
    if name not in house.names:
        raise UnknownPlace(name)
