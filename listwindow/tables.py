"""Tables: rows of integers, known by their numbers."""

from listwindow.checks import check_cells, check_column, check_row, check_rows, check_width
from listwindow.errors import InvalidNumber, InvalidRow


class Table:
    """A table with so many columns. It never changes; its methods return tables of their own."""

    def __init__(self, width, rows):
        check_width(width)
        for index, cells in enumerate(rows):
            if len(cells) != width:
                raise InvalidRow(index)
        self._width = width
        self._rows = [list(cells) for cells in rows]

    @property
    def width(self):
        return self._width

    @property
    def rows(self):
        return [list(cells) for cells in self._rows]

    def __len__(self):
        return len(self._rows)

    def __eq__(self, other):
        return isinstance(other, Table) and self._width == other._width and self._rows == other._rows

    def __add__(self, other):
        if not isinstance(other, Table):
            return NotImplemented
        if other._width != self._width:
            raise InvalidNumber(other._width)
        return Table(self._width, self._rows + other._rows)

    def cell(self, row, column):
        check_row(len(self._rows), row)
        check_column(self._width, column)
        return self._rows[row][column]

    def column(self, column):
        check_column(self._width, column)
        return [cells[column] for cells in self._rows]

    def with_cell(self, row, column, value):
        check_row(len(self._rows), row)
        check_column(self._width, column)
        rows = self.rows
        rows[row][column] = value
        return Table(self._width, rows)

    def with_row(self, cells):
        check_cells(self._width, cells)
        return Table(self._width, self._rows + [cells])

    def without_row(self, row):
        check_row(len(self._rows), row)
        return Table(self._width, self._rows[:row] + self._rows[row + 1:])

    def picked(self, rows):
        check_rows(len(self._rows), rows)
        return Table(self._width, [self._rows[row] for row in rows])
