"""Tables: what a stretch does to what is around it, for all sides that there may be."""

from sparkrows.errors import BadTable, BadWidth, NoColumns, OtherFrame
from sparkrows.frames import WIDEST, is_integer

# The sides of an open web: nobody is ahead of it, and nobody behind it.
NOBODY = ((), ())


def sides(width):
    """The sides of a width, ascending."""
    if not is_integer(width) or not 1 <= width <= WIDEST:
        raise BadWidth(width)
    found = [()]
    for row in range(width):
        found = found + [side + (row,) for side in found]
    return sorted(found)


def many_in(rows, side):
    """How many of some rows are in a side."""
    return len([row for row in rows if row in side])


def _is_side(value, known):
    """Whether any value is one of the known sides."""
    # True and False are equal to 1 and 0, but they are no rows.
    return value in known and not any([isinstance(row, bool) for row in value])


def _is_key(value, known):
    """Whether any value is a pair of sides."""
    if not isinstance(value, tuple) or len(value) != 2:
        return False
    return _is_side(value[0], known) and _is_side(value[1], known)


def _is_entry(value, known):
    """Whether any value is a tuple of two sides and a bool."""
    if not isinstance(value, tuple) or len(value) != 3:
        return False
    return _is_key(value[:2], known) and isinstance(value[2], bool)


def _keeps(entry, less):
    """Whether an entry has all that another one has."""
    rows = many_in(less[0], entry[0]) + many_in(less[1], entry[1])
    return rows == len(less[0]) + len(less[1]) and (entry[2] or not less[2])


def _never_falls(entries, known):
    """Whether no entry loses anything if a side of its key gets one row more."""
    grown = {
        side: [taller for taller in known if len(taller) == len(side) + 1 and many_in(side, taller) == len(side)]
        for side in known
    }
    for left, right in entries:
        less = entries[left, right]
        more = [entries[side, right] for side in grown[left]] + [entries[left, side] for side in grown[right]]
        if not all([_keeps(entry, less) for entry in more]):
            return False
    return True


def _are_entries(value, known):
    """Whether any value has the form of a table with these sides."""
    if not isinstance(value, dict) or len(value) != len(known) * len(known):
        return False
    # So many unlike pairs of sides are all that there are.
    if not all([_is_key(key, known) and _is_entry(value[key], known) for key in value]):
        return False
    return _never_falls(value, known)


def asked(entries, place, ends):
    """The sides with which one of the tables in a row is asked, if all tell these entries.

    The ends are the sides of the whole row, None in a ring.
    """
    left, right = (entries[-1][1], entries[0][0]) if ends is None else ends
    if place > 0:
        left = entries[place - 1][1]
    if place + 1 < len(entries):
        right = entries[place + 1][0]
    return left, right


def at_rest(tables, ends):
    """The entries at which tables in a row come to rest, from nobody in between on."""
    entries = [((), (), False) for _ in tables]
    before = None
    while entries != before:
        before = list(entries)
        for place, table in enumerate(tables):
            left, right = asked(entries, place, ends)
            entries[place] = table[left, right]
    return entries


def _joined(one, other):
    """The entries of two tables put together."""
    found = {}
    for ends in one:
        ahead, behind = at_rest([one, other], ends)
        found[ends] = (ahead[0], behind[1], ahead[2] and behind[2])
    return found


class Table:
    """For each pair of sides of a stretch (first, last, full)."""

    def __init__(self, width, entries):
        known = sides(width)
        if not _are_entries(entries, known):
            raise BadTable(entries)
        self.width = width
        self._entries = {key: entries[key] for key in entries}

    def __eq__(self, other):
        return isinstance(other, Table) and self.width == other.width and self._entries == other._entries

    def __getitem__(self, at):
        left, right = at
        return self._entries[left, right]

    def __iter__(self):
        raise TypeError("a table is asked with two sides")

    def __add__(self, other):
        if self.width != other.width:
            raise OtherFrame()
        return Table(self.width, _joined(self._entries, other._entries))

    def entries(self):
        """All entries, as a dict that is the caller's own."""
        return {key: self._entries[key] for key in self._entries}

    def mirrored(self):
        """The table of the stretch with its columns the other way round."""
        return Table(self.width, {
            (right, left): (self._entries[left, right][1], self._entries[left, right][0], self._entries[left, right][2])
            for left, right in self._entries
        })

    def ring(self):
        """The entry at which the table comes to rest if it is asked by its own ends."""
        return at_rest([self._entries], None)[0]


def _near(frame):
    """For each row its neighbours in the column ahead, in its own one, and in the next one."""
    return [(frame.back(row), frame.beside(row), frame.onward(row)) for row in range(frame.width)]


def _come_in(near, column, left, right):
    """The rows of a column that come to be in, if these are the neighbours."""
    lacking = {
        row: 0 if starts else need - many_in(near[row][0], left) - many_in(near[row][2], right)
        for row, (need, starts) in enumerate(column)
    }
    rows = []
    while True:
        joining = [row for row in lacking if row not in rows and lacking[row] <= many_in(near[row][1], rows)]
        if not joining:
            return tuple(sorted(rows))
        rows = rows + joining


def column_rows(frame, column, left, right):
    """The rows of one column that come to be in between two sides."""
    return _come_in(_near(frame), column, left, right)


def rows_between(stretch, left, right):
    """For each column of a stretch the rows that come to be in between two sides."""
    near = _near(stretch.frame)
    found = [() for _ in stretch.columns]
    before = None
    while found != before:
        before = list(found)
        for place, column in enumerate(stretch.columns):
            around = [left, *found, right]
            found[place] = _come_in(near, column, around[place], around[place + 2])
    return found


def _column_entries(frame, column):
    """The entries of one column."""
    near, known = _near(frame), sides(frame.width)
    found = {}
    for left in known:
        for right in known:
            rows = _come_in(near, column, left, right)
            found[left, right] = (rows, rows, len(rows) == frame.width)
    return found


def table_of_any(stretch):
    """The table of a stretch, also of one without columns: that one hands on what is ahead and behind."""
    width = stretch.frame.width
    known = sides(width)
    entries = {(left, right): (right, left, True) for left in known for right in known}
    for column in stretch.columns:
        entries = _joined(entries, _column_entries(stretch.frame, column))
    return Table(width, entries)


def table_of(stretch):
    """The table of a stretch."""
    if len(stretch) == 0:
        raise NoColumns()
    return table_of_any(stretch)
