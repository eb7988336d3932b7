"""Views: what others see of a stretch, and what parts two stretches."""

from sparkrows.errors import NoColumns, OtherFrame
from sparkrows.frames import BAR, Stretch, is_column
from sparkrows.tables import NOBODY, at_rest, many_in, sides, table_of


def _counts(neighbours, side, rows):
    """For each row of a column None if it is in, else how many of its neighbours among some rows are."""
    return tuple([None if row in side else many_in(near, rows) for row, near in enumerate(neighbours)])


def view(stretch):
    """The view of a stretch: for each pair of sides what is seen of it from there."""
    table = table_of(stretch)
    frame = stretch.frame
    onward = [frame.onward(row) for row in range(frame.width)]
    back = [frame.back(row) for row in range(frame.width)]
    seen = {}
    for left in sides(frame.width):
        for right in sides(frame.width):
            first, last, full = table[left, right]
            seen[left, right] = (_counts(onward, left, first), _counts(back, right, last), full)
    return seen


def _check(one, other):
    """Raises the error that is due, if these two stretches cannot be compared."""
    if one.frame != other.frame:
        raise OtherFrame()
    if len(one) == 0 or len(other) == 0:
        raise NoColumns()


def alike(one, other):
    """Whether two stretches can stand in each other's place."""
    _check(one, other)
    return view(one) == view(other)


def _unlike(ours, theirs):
    """The first row of which two sorts of counts tell something else, with the greater count; None if there is none."""
    for row, counts in enumerate(zip(ours, theirs)):
        if counts[0] != counts[1]:
            return row, max(counts)
    return None


def _holding(frame, side, joining):
    """A column of which the rows of a side start, and no other row joins but one, perhaps, that sees so many more."""
    column = []
    for row in range(frame.width):
        if row in side:
            column.append((0, True))
        elif joining is not None and joining[0] == row:
            column.append((many_in(frame.beside(row), side) + joining[1], False))
        else:
            column.append(BAR)
    return tuple(column)


def surrounding(one, other):
    """Two columns, one ahead and one behind, that part two stretches; None if they are alike."""
    _check(one, other)
    ours, theirs = view(one), view(other)
    for left, right in ours:
        mine, yours = ours[left, right], theirs[left, right]
        if mine != yours:
            ahead, behind = _unlike(mine[0], yours[0]), _unlike(mine[1], yours[1])
            # One row that joins is enough; a second one might let the first one join in both webs.
            if ahead is not None:
                behind = None
            return _holding(one.frame, left, ahead), _holding(one.frame, right, behind)
    return None


def _seen(stretch, left, right):
    """What is won of two columns around a stretch, and whether all of the stretch is."""
    line = [Stretch(stretch.frame, [left]), stretch, Stretch(stretch.frame, [right])]
    ahead, within, behind = at_rest([table_of(part) for part in line], NOBODY)
    return ahead[0], behind[0], within[2]


def parts(one, other, left, right):
    """Whether any two values are columns, one ahead and one behind, that part two stretches."""
    _check(one, other)
    if not is_column(one.frame, left) or not is_column(one.frame, right):
        return False
    return _seen(one, left, right) != _seen(other, left, right)
