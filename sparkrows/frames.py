"""Frames, cells, columns, stretches and webs."""

from sparkrows.errors import BadCell, BadColumn, BadColumns, BadPairs, BadSeats, BadWidth
from sparkrows.errors import NoSeat, OtherFrame, TooShort

WIDEST = 3
GREATEST_NEED = 9
# No seat has nine neighbours, so a seat with this cell never joins.
BAR = (9, False)


def is_integer(value):
    """Whether any value is an integer; True and False are none."""
    return isinstance(value, int) and not isinstance(value, bool)


def is_place(value, many):
    """Whether any value is an integer from 0 to below many."""
    return is_integer(value) and 0 <= value < many


def _is_pair(value, width):
    if not isinstance(value, tuple) or len(value) != 2:
        return False
    return is_place(value[0], width) and is_place(value[1], width)


def _are_outer(value, width):
    """Whether any value is a list or tuple of unlike pairs of rows."""
    if not isinstance(value, (list, tuple)):
        return False
    return all([_is_pair(pair, width) for pair in value]) and len(set(value)) == len(value)


def _are_inner(value, width):
    """Whether any value is such pairs, with the lesser row first in each."""
    return _are_outer(value, width) and all([pair[0] < pair[1] for pair in value])


class Frame:
    """How many rows a column has, and which seats are neighbours."""

    def __init__(self, width, *, inner=(), outer=()):
        if not is_integer(width) or not 1 <= width <= WIDEST:
            raise BadWidth(width)
        if not _are_inner(inner, width):
            raise BadPairs(inner)
        if not _are_outer(outer, width):
            raise BadPairs(outer)
        self.width = width
        # Both ascend: what is told row by row below is in order by that alone.
        self.inner = tuple(sorted(inner))
        self.outer = tuple(sorted(outer))

    def __eq__(self, other):
        return (isinstance(other, Frame) and self.width == other.width
                and self.inner == other.inner and self.outer == other.outer)

    def beside(self, row):
        """The neighbours of a row in its own column."""
        above = [a for a, b in self.inner if b == row]
        below = [b for a, b in self.inner if a == row]
        return tuple(above + below)

    def onward(self, row):
        """The neighbours of a row in the next column."""
        return tuple([b for a, b in self.outer if a == row])

    def back(self, row):
        """The neighbours of a row in the column ahead."""
        return tuple([a for a, b in self.outer if b == row])


def is_cell(value):
    """Whether any value is a cell, a tuple (need, starts)."""
    if not isinstance(value, tuple) or len(value) != 2:
        return False
    return is_place(value[0], GREATEST_NEED + 1) and isinstance(value[1], bool)


def is_column(frame, value):
    """Whether any value is a column of the frame."""
    if not isinstance(value, tuple) or len(value) != frame.width:
        return False
    return all([is_cell(cell) for cell in value])


class Stretch:
    """Columns of one frame, perhaps none."""

    def __init__(self, frame, columns):
        if not isinstance(columns, (list, tuple)):
            raise BadColumns(columns)
        for number, column in enumerate(columns):
            if not is_column(frame, column):
                raise BadColumn(number)
        self.frame = frame
        self._columns = tuple(columns)

    def __eq__(self, other):
        return isinstance(other, Stretch) and self.frame == other.frame and self._columns == other._columns

    def __len__(self):
        return len(self._columns)

    def __add__(self, other):
        if self.frame != other.frame:
            raise OtherFrame()
        return Stretch(self.frame, self._columns + other._columns)

    def __mul__(self, other):
        return Stretch(self.frame, self._columns * other)

    @property
    def columns(self):
        """The columns, as a list that is the caller's own."""
        return list(self._columns)


def mirrored(stretch):
    """The stretch with its columns the other way round."""
    frame = stretch.frame
    turned = Frame(frame.width, inner=frame.inner, outer=[(b, a) for a, b in frame.outer])
    return Stretch(turned, stretch.columns[::-1])


class Web:
    """A stretch that stands alone or is closed to a ring."""

    def __init__(self, stretch, *, closed=False):
        fewest = 3 if closed else 1
        if len(stretch) < fewest:
            raise TooShort(len(stretch))
        self.stretch = stretch
        self.closed = closed

    def __eq__(self, other):
        return isinstance(other, Web) and self.stretch == other.stretch and self.closed == other.closed

    def seats(self):
        """All seats, ascending."""
        width = self.stretch.frame.width
        return [(column, row) for column in range(len(self.stretch)) for row in range(width)]

    def is_seat(self, value):
        """Whether any value is a seat of this web."""
        if not isinstance(value, tuple) or len(value) != 2:
            return False
        return is_place(value[0], len(self.stretch)) and is_place(value[1], self.stretch.frame.width)

    def are_seats(self, value):
        """Whether any value is a list of unlike seats of this web."""
        if not isinstance(value, list):
            return False
        return all([self.is_seat(seat) for seat in value]) and len(set(value)) == len(value)

    def cell(self, seat):
        """The cell of a seat."""
        if not self.is_seat(seat):
            raise NoSeat(seat)
        column, row = seat
        return self.stretch.columns[column][row]

    def neighbours(self, seat):
        """The neighbours of a seat, ascending."""
        if not self.is_seat(seat):
            raise NoSeat(seat)
        frame = self.stretch.frame
        column, row = seat
        beside = [(column, other) for other in frame.beside(row)]
        ahead = [(place, other) for place in self._at(column - 1) for other in frame.back(row)]
        behind = [(place, other) for place in self._at(column + 1) for other in frame.onward(row)]
        return sorted(beside + ahead + behind)

    def changed(self, seat, cell):
        """The web in which the seat has this cell."""
        if not self.is_seat(seat):
            raise NoSeat(seat)
        if not is_cell(cell):
            raise BadCell(cell)
        return self._with_cells({seat: cell})

    def with_starters(self, seats):
        """The web in which these seats start, too."""
        if not self.are_seats(seats):
            raise BadSeats(seats)
        return self._with_cells({seat: (self.cell(seat)[0], True) for seat in seats})

    def with_bars(self, seats):
        """The web in which these seats never join."""
        if not self.are_seats(seats):
            raise BadSeats(seats)
        return self._with_cells({seat: BAR for seat in seats})

    def _at(self, place):
        """The column at a place one beyond an end at most: none there in an open web, the other end in a ring."""
        many = len(self.stretch)
        if self.closed:
            return [place % many]
        return [place] if 0 <= place < many else []

    def _with_cells(self, cells):
        """The web in which the seats of a dict have the cells it tells."""
        columns = []
        for place, column in enumerate(self.stretch.columns):
            columns.append(tuple([cells.get((place, row), cell) for row, cell in enumerate(column)]))
        return Web(Stretch(self.stretch.frame, columns), closed=self.closed)
