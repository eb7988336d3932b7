"""Fronts: what a part of a web, with nobody ahead of it, does to the column behind it."""

from sparkrows.frames import is_integer
from sparkrows.tables import Sight, many_in, sides


def first_front(width):
    """The front of no columns."""
    return tuple([((), True) for _ in sides(width)])


def settled(known, front, answers):
    """For each of the known sides the rows of one more column that come to be in, and what the front tells for these.

    The answers tell for each side ahead, and then for each one behind, the rows of the column.
    """
    ahead = dict(zip(known, front))
    found = []
    for side in known:
        rows, told = (), ahead[()]
        while answers[told[0]][side] != rows:
            rows = answers[told[0]][side]
            told = ahead[rows]
        found.append((rows, told[1]))
    return found


def _behind(sight, width, front, column):
    """The front behind one more column."""
    told = settled(sides(width), front, sight.answers(column))
    return tuple([(rows, full and len(rows) == width) for rows, full in told])


def onward(frame, front, column):
    """The front behind one more column."""
    return _behind(Sight(frame), frame.width, front, column)


def front_of(stretch):
    """The front of a stretch."""
    frame = stretch.frame
    sight = Sight(frame)
    front = first_front(frame.width)
    for column in stretch.columns:
        front = _behind(sight, frame.width, front, column)
    return front


def _is_told(value, known):
    """Whether any value is a tuple of a side and a bool."""
    if not isinstance(value, tuple) or len(value) != 2 or not isinstance(value[1], bool):
        return False
    # True and False are equal to 1 and 0, but they are no rows.
    return value[0] in known and all([is_integer(row) for row in value[0]])


def _keeps(told, less):
    """Whether the one (rows, full) has all that the other one has."""
    return many_in(less[0], told[0]) == len(less[0]) and (told[1] or not less[1])


def is_front(width, value):
    """Whether any value has the form of a front of a width."""
    known = sides(width)
    if not isinstance(value, tuple) or len(value) != len(known):
        return False
    if not all([_is_told(told, known) for told in value]):
        return False
    told = dict(zip(known, value))
    # Rows that are left out one by one lead from each side to each lesser one.
    return all([
        _keeps(told[side], told[side[:place] + side[place + 1:]]) for side in known for place in range(len(side))
    ])
