"""Tables: what a stretch does to what is around it, for all sides that there may be."""

from sparkrows.errors import BadTable, BadWidth, NoColumns, OtherFrame
from sparkrows.frames import WIDEST, is_integer

# The sides of an open web: nobody is ahead of it, and nobody behind it.
NOBODY = ((), ())
# Each side stands at the place whose bits are its rows, so those of a narrow column come first.
SIDES = ((), (0,), (1,), (0, 1), (2,), (0, 2), (1, 2), (0, 1, 2))


def _check_width(value):
    """Raises the error that is due for a value that is no width."""
    if not is_integer(value) or not 1 <= value <= WIDEST:
        raise BadWidth(value)


def sides(width):
    """The sides of a width, ascending."""
    _check_width(width)
    return sorted(SIDES[:1 << width])


def many_in(rows, side):
    """How many of some rows are in a side."""
    return len([row for row in rows if row in side])


def _nested(entries, width):
    """The entries of a dict by the side ahead, and then by the side behind; None in the place of what is not there."""
    known = SIDES[:1 << width]
    return {left: {right: entries.get((left, right)) for right in known} for left in known}


def _is_told(value):
    """Whether any value is a tuple of two tuples and a bool."""
    if not isinstance(value, tuple) or len(value) != 3:
        return False
    return isinstance(value[0], tuple) and isinstance(value[1], tuple) and isinstance(value[2], bool)


def _bits(told, width):
    """For each of some entries a number with a bit for each row that it has and for full; nothing for what is none."""
    known = {side: place for place, side in enumerate(SIDES[:1 << width])}
    return [
        known[first] << 4 | known[last] << 1 | full
        for first, last, full in told if first in known and last in known
    ]


def _never_falls(bits, width):
    """Whether no entry loses a bit if a side of its key gets one row more; the bits of its place are these rows."""
    for _ in range(2 * width):
        # Each time the places without the lowest bit meet those with it, and the next bit becomes the lowest one.
        without, having = bits[0::2], bits[1::2]
        if any([less | more != more for less, more in zip(without, having)]):
            return False
        bits = without + having
    return True


def _has_form(nested, keys, width):
    """Whether entries have the form of a table, if there are as many keys as there are pairs of sides."""
    told = [entry for line in nested.values() for entry in line.values()]
    if not all([_is_told(entry) for entry in told]):
        return False
    # True and False are equal to 1 and 0, but they are no rows. As an entry was found for each pair of sides, each
    # key is equal to one: it has no other rows that are no integers.
    if any([isinstance(row, bool) for left, right in keys for row in left + right]):
        return False
    if any([isinstance(row, bool) or not isinstance(row, int) for first, last, _ in told for row in first + last]):
        return False
    bits = _bits(told, width)
    return len(bits) == len(told) and _never_falls(bits, width)


def asked(entries, place, ends):
    """The sides with which one of the tables in a row is asked, if all tell these entries.

    The ends are the sides of the whole row, None in a ring.
    """
    left, right = (entries[-1][1], entries[0][0]) if ends is None else ends
    if place > 0:
        left = entries[place - 1][1]
    if place + 1 < len(entries):
        right = entries[place + 1][0]
    return left, right


def at_rest(tables, ends):
    """The entries at which tables in a row come to rest, from nobody in between on."""
    entries = [((), (), False) for _ in tables]
    before = None
    while entries != before:
        before = list(entries)
        for place, table in enumerate(tables):
            left, right = asked(entries, place, ends)
            entries[place] = table[left, right]
    return entries


def _met(ahead, behind):
    """The entry of two tables put together: what the one tells by its right side, the other one by its left side."""
    told = behind[()]
    answer = ahead[told[0]]
    while behind[answer[1]] != told:
        told = behind[answer[1]]
        answer = ahead[told[0]]
    return answer[0], told[1], answer[2] and told[2]


def _joined(one, other):
    """The entries, nested, of two tables put together."""
    behind = {right: {left: other[left][right] for left in other} for right in other}
    return {left: {right: _met(one[left], behind[right]) for right in behind} for left in one}


class Formed:
    """Entries, by the side ahead and then by the side behind, that are known to have the form of a table."""

    def __init__(self, nested):
        self.nested = nested


def _formed(width, entries):
    """The entries of a table of some width; raises the error that is due if they are none."""
    _check_width(width)
    if not isinstance(entries, dict) or len(entries) != 1 << (2 * width):
        raise BadTable(entries)
    nested = _nested(entries, width)
    if not _has_form(nested, list(entries), width):
        raise BadTable(entries)
    return Formed(nested)


class Table:
    """For each pair of sides of a stretch (first, last, full)."""

    def __init__(self, width, entries):
        # Tables that are put together or turned keep the form, so it is not looked for again.
        formed = entries if isinstance(entries, Formed) else _formed(width, entries)
        self.width = width
        self._told = formed.nested

    def __eq__(self, other):
        return isinstance(other, Table) and self.width == other.width and self._told == other._told

    def __getitem__(self, at):
        left, right = at
        return self._told[left][right]

    def __iter__(self):
        raise TypeError("a table is asked with two sides")

    def __add__(self, other):
        if self.width != other.width:
            raise OtherFrame()
        return Table(self.width, Formed(_joined(self._told, other._told)))

    def entries(self):
        """All entries, as a dict that is the caller's own."""
        return {(left, right): entry for left, line in self._told.items() for right, entry in line.items()}

    def mirrored(self):
        """The table of the stretch with its columns the other way round."""
        turned = {
            right: {left: (line[right][1], line[right][0], line[right][2]) for left, line in self._told.items()}
            for right in self._told
        }
        return Table(self.width, Formed(turned))

    def ring(self):
        """The entry at which the table comes to rest if it is asked by its own ends."""
        return at_rest([self], None)[0]


def _come_in(beside, lacking):
    """The rows of a column that come to be in if each lacks so many; beside has for each its neighbours there."""
    rows = []
    joining = [row for row, many in enumerate(lacking) if many <= 0]
    while joining:
        rows = rows + joining
        joining = [row for row, many in enumerate(lacking) if row not in rows and many <= many_in(beside[row], rows)]
    return tuple(sorted(rows))


class Sight:
    """What the rows of the columns of a frame see of the columns around them, and of each other."""

    def __init__(self, frame):
        rows = list(range(frame.width))
        known = SIDES[:1 << frame.width]
        self._beside = [frame.beside(row) for row in rows]
        self._ahead = {side: [many_in(frame.back(row), side) for row in rows] for side in known}
        self._behind = {side: [many_in(frame.onward(row), side) for row in rows] for side in known}
        self._resting = {}

    def rows_in(self, column, left, right):
        """The rows of a column that come to be in between two sides."""
        ahead, behind = self._ahead[left], self._behind[right]
        lacking = tuple([
            0 if starts else need - ahead[row] - behind[row] for row, (need, starts) in enumerate(column)
        ])
        # Many columns between many sides lack the same.
        if lacking not in self._resting:
            self._resting[lacking] = _come_in(self._beside, lacking)
        return self._resting[lacking]

    def answers(self, column):
        """For each side ahead, and then for each one behind, the rows of a column that come to be in."""
        return {left: {right: self.rows_in(column, left, right) for right in self._behind} for left in self._ahead}


def column_rows(frame, column, left, right):
    """The rows of one column that come to be in between two sides."""
    lacking = [
        0 if starts else need - many_in(frame.back(row), left) - many_in(frame.onward(row), right)
        for row, (need, starts) in enumerate(column)
    ]
    return _come_in([frame.beside(row) for row in range(frame.width)], lacking)


def rows_between(stretch, left, right):
    """For each column of a stretch the rows that come to be in between two sides."""
    sight = Sight(stretch.frame)
    found = [() for _ in stretch.columns]
    before = None
    while found != before:
        before = list(found)
        for place, column in enumerate(stretch.columns):
            around = [left, *found, right]
            found[place] = sight.rows_in(column, around[place], around[place + 2])
    return found


def _of_column(sight, column, width):
    """The entries, nested, of one column."""
    return {
        left: {right: (rows, rows, len(rows) == width) for right, rows in line.items()}
        for left, line in sight.answers(column).items()
    }


def _of_columns(frame, columns):
    """The entries, nested, of some columns, of one at least."""
    sight = Sight(frame)
    known = {}
    found = None
    for column in columns:
        if column not in known:
            known[column] = _of_column(sight, column, frame.width)
        found = known[column] if found is None else _joined(found, known[column])
    return found


def table_of_any(stretch):
    """The table of a stretch, also of one without columns: that one hands on what is ahead and behind."""
    width = stretch.frame.width
    if len(stretch) > 0:
        return Table(width, Formed(_of_columns(stretch.frame, stretch.columns)))
    known = SIDES[:1 << width]
    return Table(width, Formed({left: {right: (right, left, True) for right in known} for left in known}))


def table_of(stretch):
    """The table of a stretch."""
    if len(stretch) == 0:
        raise NoColumns()
    return table_of_any(stretch)
