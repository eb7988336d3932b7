"""What several tests need: values of any kind, small webs, and a plain walk to compare with."""

import itertools
import random

from sparkrows.frames import Frame, Stretch, Web

GREAT = 10 ** 59


def deep(kind, levels=20):
    """A value that many levels deep."""
    value = 0
    for _ in range(levels):
        value = kind(value)
    return value


def is_plain_integer(value):
    return type(value) is int


def odd_values():
    """Values of any kind; none of them is a cell, a column, a seat, or a pair of rows."""
    return [
        None, True, False, 0, 1, 2, 3, 4, -1, 9, 10, GREAT, -GREAT, "", "a", "12", "(0, 0)",
        (), [], {}, (0,), (1, 2, 3), [0], [0, 0], [0, 1], {0: 1}, {(0, 0): True}, {"a": [1]},
        (None, None), (0, None), (None, 0), (None, True), (1, None), ("0", 0), (0, "0"), ("0", True),
        (-1, 0), (0, -1), (-1, True), (10, True), (GREAT, GREAT), (GREAT, 0), (GREAT, True),
        (True, True), (False, False), (True, 0), (False, 0), (False, 1), (0, [0]), ([0], 0), ((0,), 0), ({}, 0),
        (0, (0,)), [(0, 0, 0)], ((), ()), [[]], [()], [None], [True], [{}], (0, 0, 0),
        (1, True, 0), (1, True, True), [1, True], [0, False],
        deep(lambda value: [value]), deep(lambda value: (value,)), deep(lambda value: {0: value}),
        deep(lambda value: (value, value), 8), deep(lambda value: [value, (value,)], 8),
    ]


def ladder(rows):
    """The frame in which rows are joined to the next row and to the same row of the next column."""
    return Frame(rows, inner=[(a, a + 1) for a in range(rows - 1)], outer=[(a, a) for a in range(rows)])


def web_of(frame, columns, closed=False):
    return Web(Stretch(frame, columns), closed=closed)


def path_web(cells, closed=False):
    """A web of width 1 with these cells."""
    return web_of(Frame(1, outer=[(0, 0)]), [(cell,) for cell in cells], closed)


def plain_neighbours(web):
    """For each seat the set of its neighbours, pair by pair."""
    columns, frame = web.stretch.columns, web.stretch.frame
    near = {(c, r): set() for c in range(len(columns)) for r in range(frame.width)}
    edges = [((c, a), (c, b)) for c in range(len(columns)) for a, b in frame.inner]
    for c in range(len(columns)):
        after = c + 1
        if after == len(columns):
            if not web.closed:
                continue
            after = 0
        edges += [((c, a), (after, b)) for a, b in frame.outer]
    for one, other in edges:
        near[one].add(other)
        near[other].add(one)
    return near


def plain_moments(web):
    """For each seat that is won its moment, by looking at all seats at each moment."""
    near = plain_neighbours(web)
    cells = {(c, r): cell for c, column in enumerate(web.stretch.columns) for r, cell in enumerate(column)}
    moments = {seat: 0 for seat in cells if cells[seat][1]}
    for moment in range(1, len(cells) + 2):
        joining = [seat for seat in cells
                   if seat not in moments and len([s for s in near[seat] if s in moments]) >= cells[seat][0]]
        moments.update({seat: moment for seat in joining})
    return moments


def some_pairs(chance, pairs):
    return [pair for pair in pairs if chance.random() < 0.5]


def random_frame(chance):
    width = chance.randint(1, 3)
    rows = range(width)
    return Frame(width, inner=some_pairs(chance, itertools.combinations(rows, 2)),
                 outer=some_pairs(chance, itertools.product(rows, rows)))


def random_stretch(chance, frame, least=1, most=3, starters=0.2):
    """A stretch of any columns; some have seats that need 0 or 9."""
    needs = chance.choice([(0, 1, 2, 3, 9), (1, 1, 2, 2, 3), (1, 2), (1,), (2, 3)])
    return Stretch(frame, [tuple((chance.choice(needs), chance.random() < starters) for _ in range(frame.width))
                           for _ in range(chance.randint(least, most))])


def random_web(chance, least=1, most=6):
    """A web of any frame; some are rings."""
    stretch = random_stretch(chance, random_frame(chance), least, most)
    return Web(stretch, closed=len(stretch) >= 3 and chance.random() < 0.5)


def random_webs(seed, many, **bounds):
    """Always the same webs for one seed."""
    chance = random.Random(seed)
    return [random_web(chance, **bounds) for _ in range(many)]


def small_webs():
    """All open paths of one to three seats, and all rings of three, over needs 0, 1, 2 and 9."""
    cells = [(need, starts) for need in (0, 1, 2, 9) for starts in (False, True)]
    found = []
    for many in (1, 2, 3):
        found += [path_web(choice) for choice in itertools.product(cells, repeat=many)]
    found += [path_web(choice, closed=True) for choice in itertools.product(cells, repeat=3)]
    return found


def plain_sides(width):
    """All sides of a width, the shortest ones first."""
    return [side for many in range(width + 1) for side in itertools.combinations(range(width), many)]


def plain_pairs(width):
    return list(itertools.product(plain_sides(width), repeat=2))


def held(frame, side):
    """A column of which these rows are in from the beginning, and the other ones never join."""
    return tuple((5, True) if row in side else (9, False) for row in range(frame.width))


def plain_rows(web):
    """For each column of a web the rows that are won, by a plain walk."""
    moments = plain_moments(web)
    return [tuple(row for row in range(web.stretch.frame.width) if (column, row) in moments)
            for column in range(len(web.stretch))]


def plain_between(stretch, left, right):
    """For each column of a stretch the rows that come to be in between two sides, by a plain walk."""
    frame = stretch.frame
    rows = plain_rows(web_of(frame, [held(frame, left), *stretch.columns, held(frame, right)]))
    return rows[1:-1]


def plain_entry(stretch, left, right):
    """The entry of two sides in the table of a stretch, by a plain walk."""
    rows = plain_between(stretch, left, right)
    return rows[0], rows[-1], all(len(side) == stretch.frame.width for side in rows)


def plain_entries(stretch):
    return {key: plain_entry(stretch, *key) for key in plain_pairs(stretch.frame.width)}


def shape_of(stretch):
    """All that a stretch holds, as plain values, to see that it stays as it was."""
    frame = stretch.frame
    return repr((frame.width, frame.inner, frame.outer, stretch.columns))


def shape(web):
    """All that a web holds, as plain values, to see that it stays as it was."""
    return shape_of(web.stretch) + repr(web.closed)
