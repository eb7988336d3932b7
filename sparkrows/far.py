"""Seats of webs of any size, how many are won there, and the sizes that part two families."""

from sparkrows.errors import NoSeat, NoWeb, OtherShape
from sparkrows.frames import is_place
from sparkrows.tables import asked, at_rest, rows_between


def _rows(family, times, place, stretch):
    """For each column of a stretch the rows that are won, if it stands at this place of the tables in a row."""
    entries = at_rest(family.tables(times), family.ends())
    left, right = asked(entries, place, family.ends())
    return rows_between(stretch, left, right)


def _head_rows(family, size):
    return _rows(family, [size], 0, family.head)


def _tail_rows(family, size):
    return _rows(family, [size], 2, family.tail)


def _body_rows(family, size, number):
    """The same for the body with this number, from 0."""
    return _rows(family, [number, 1, size - 1 - number], 2, family.body)


def _column_rows(family, size, column):
    """The rows of a column that are won."""
    number, place = divmod(column - len(family.head), len(family.body))
    if number < 0:
        return _head_rows(family, size)[column]
    if number < size:
        return _body_rows(family, size, number)[place]
    return _tail_rows(family, size)[column - len(family.head) - len(family.body) * size]


def is_in(family, size, column, row):
    """Whether a seat of the web of a size is won."""
    if not family.has(size):
        raise NoWeb(size)
    if not is_place(column, family.length(size)) or not is_place(row, family.body.frame.width):
        raise NoSeat((column, row))
    return row in _column_rows(family, size, column)


def _samples(family, size):
    """Numbers of bodies of a web, each with how many bodies it stands for: in all of them the same is won."""
    lead, period = family.turn()
    if size <= 2 * lead + period:
        return [(number, 1) for number in range(size)]
    # In between so many bodies lie ahead and behind that the tables of both come again after each period.
    between = size - 2 * lead
    ends = [(number, 1) for number in list(range(lead)) + list(range(size - lead, size))]
    return ends + [(lead + k, (between - k + period - 1) // period) for k in range(period)]


def _total(columns):
    """How many rows there are in some columns."""
    return sum([len(rows) for rows in columns])


def count(family, size):
    """How many seats of the web of a size are won."""
    if not family.has(size):
        raise NoWeb(size)
    bodies = [many * _total(_body_rows(family, size, number)) for number, many in _samples(family, size)]
    return _total(_head_rows(family, size)) + _total(_tail_rows(family, size)) + sum(bodies)


def _are_shaped_alike(one, other):
    if one.body.frame != other.body.frame or one.closed != other.closed:
        return False
    return len(one.head) == len(other.head) and len(one.tail) == len(other.tail)


def _end_rows(family, size):
    """What is won of the head and of the tail at a size."""
    return _head_rows(family, size), _tail_rows(family, size)


def parting(one, other):
    """The least size that parts two families, None if there is none."""
    if not _are_shaped_alike(one, other):
        raise OtherShape()
    ours, theirs = one.turn(), other.turn()
    # After so many turns of the one as the other one's turn has sizes, and the other way round, all comes again.
    for size in range(max(ours[0], theirs[0]) + ours[1] * theirs[1]):
        if one.has(size) and other.has(size) and _end_rows(one, size) != _end_rows(other, size):
            return size
    return None
