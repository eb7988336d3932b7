"""Families that several tests ask about."""

import random

from sparkrows.frames import Frame, Stretch
from sparkrows.powers import Family
from tests.helpers import is_plain_integer, odd_values, random_frame, random_stretch, shape_of, web_of

PATH = Frame(1, outer=[(0, 0)])
ONE, TWO, SPARK, NEVER, NONE = [Stretch(PATH, cells) for cells in (
    [((1, False),)], [((2, False),)], [((0, True),)], [((9, False),)], [])]
CROSSED = Frame(2, outer=[(0, 1), (1, 0)])
TURNING, LOWER, UPPER = [Stretch(CROSSED, [column]) for column in (
    ((1, False), (1, False)), ((0, True), (1, False)), ((1, False), (0, True)))]
WHEEL = Frame(3, outer=[(0, 2), (1, 0), (2, 1)])
WHEELING = Stretch(WHEEL, [((1, False),) * 3])
WHEEL_HEAD = Stretch(WHEEL, [((1, True), (1, False), (1, False))])
WHEEL_TAIL = Stretch(WHEEL, [((1, True), (1, True), (1, False))])
THREES = Frame(3, inner=[(0, 1), (1, 2)], outer=[(0, 1), (0, 2), (1, 1), (1, 2), (2, 1)])

# Bodies of one column whose tables come again late: from the 3rd up to the 9th on, some of them by turns.
LATE = [Stretch(Frame(3, inner=inner, outer=outer), [tuple((need, False) for need in needs)])
        for inner, outer, needs in (
            ([(0, 1)], [(0, 1), (1, 0), (1, 1), (1, 2), (2, 0), (2, 1)], (9, 2, 1)),
            ([], [(0, 2), (1, 0), (1, 2), (2, 1), (2, 2)], (2, 2, 2)),
            ([], [(0, 1), (1, 0), (1, 2), (2, 0), (2, 2)], (1, 2, 2)),
            ([(0, 1)], [(0, 1), (1, 2), (2, 0), (2, 2)], (1, 2, 2)),
            ([(0, 1)], [(0, 2), (1, 0), (2, 0), (2, 1)], (1, 2, 2)),
            ([], [(0, 1), (0, 2), (1, 0), (2, 0), (2, 2)], (2, 1, 2)),
            ([], [(0, 0), (0, 1), (1, 2), (2, 0)], (2, 1, 1)),
            ([(1, 2)], [(0, 1), (1, 2), (2, 0)], (1, 2, 1)),
            ([(1, 2)], [(0, 1), (0, 2), (1, 0)], (2, 1, 1)),
            ([(0, 1)], [(0, 2), (1, 1), (2, 0)], (1, 2, 1)))]


def no_sizes():
    return [value for value in odd_values() if not (is_plain_integer(value) and value >= 0)]


def random_family(chance, frame=None, most=2):
    """A family of any frame, or of this one; some are closed, some have no head or no tail."""
    frame = random_frame(chance) if frame is None else frame
    return Family(random_stretch(chance, frame, 1, most, chance.choice([0, 0.1])),
                  head=chance.choice([None, random_stretch(chance, frame, 0, most, 0.4)]),
                  tail=chance.choice([None, random_stretch(chance, frame, 0, most, 0.4)]),
                  closed=chance.random() < 0.5)


def random_families(seed, many, **bounds):
    chance = random.Random(seed)
    return [random_family(chance, **bounds) for _ in range(many)]


def late_families(seed, many):
    chance = random.Random(seed)
    found = []
    for _ in range(many):
        body = chance.choice(LATE)
        head, tail = [random_stretch(chance, body.frame, 0, 1, 0.5) for _ in range(2)]
        found.append(Family(body, head=head, tail=tail, closed=chance.random() < 0.5))
    return found


def plain_web(family, size):
    """The web of a family at a size, None if there is none."""
    columns = family.head.columns + family.body.columns * size + family.tail.columns
    fewest = 3 if family.closed else 1
    return web_of(family.body.frame, columns, family.closed) if len(columns) >= fewest else None


def shape_of_family(family):
    return repr([shape_of(part) for part in (family.head, family.body, family.tail)] + [family.closed])


def some_families():
    """Families with late starts and with turns, open and closed."""
    threes = [Stretch(THREES, [column]) for column in (
        ((3, False), (2, False), (3, False)), ((1, True), (3, False), (1, True)), ((1, False), (2, True), (1, True)))]
    found = []
    for closed in (False, True):
        found += [Family(TURNING, head=LOWER, tail=LOWER, closed=closed),
                  Family(TURNING * 2, head=LOWER, closed=closed),
                  Family(TURNING, head=LOWER, tail=UPPER, closed=closed), Family(TURNING + LOWER, closed=closed),
                  Family(WHEELING, head=WHEEL_HEAD, tail=WHEEL_TAIL, closed=closed),
                  Family(WHEELING * 2, head=WHEEL_HEAD, closed=closed),
                  Family(threes[0], head=threes[1], tail=threes[2], closed=closed)]
    return found
