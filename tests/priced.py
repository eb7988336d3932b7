"""Prices, lots, guards, fronts and steps, told by plain walks through whole webs, for the tests of what costs least."""

import itertools
import random

from sparkrows.frames import Stretch, Web
from sparkrows.powers import Family
from tests.helpers import (deep, held, odd_values, plain_moments, plain_rows, plain_sides, random_frame, random_stretch,
                           shape, shape_of, web_of)

NO_PRICES = [True, False, -1, 1001, 10 ** 59, "1", "", (), (1,), [1], [], {}, deep(lambda value: [value])]
NO_AMOUNTS = [True, False, "0", "", (), (0,), [], [0], {}, {0: 0}, deep(lambda value: (value,))]


def ascending_sides(width):
    return sorted(plain_sides(width))


def plain_front(frame, columns):
    """The front of some columns: walks through them and one more column, of which each side is held."""
    found = []
    for side in ascending_sides(frame.width):
        if not columns:
            found.append(((), True))
            continue
        rows = plain_rows(web_of(frame, [*columns, held(frame, side)]))[:-1]
        found.append((rows[-1], all(len(told) == frame.width for told in rows)))
    return tuple(found)


def seats_of(columns):
    return [(place, row) for place, column in enumerate(columns) for row in range(len(column))]


def subsets(seats):
    return [list(some) for many in range(len(seats) + 1) for some in itertools.combinations(seats, many)]


def total(prices, seats):
    return sum(prices[column][row] for column, row in seats)


def exchanged(columns, seats, cell_of):
    """The columns in which the cells of some seats are exchanged."""
    return [tuple(cell_of(cell) if (place, row) in seats else cell for row, cell in enumerate(column))
            for place, column in enumerate(columns)]


def started(columns, seats):
    return exchanged(columns, seats, lambda cell: (cell[0], True))


def barred(columns, seats):
    return exchanged(columns, seats, lambda cell: (9, False))


def lots(columns, prices):
    """All lots, with their sums."""
    seats = [(place, row) for place, row in seats_of(columns)
             if not columns[place][row][1] and prices[place][row] is not None]
    return [(total(prices, some), some) for some in subsets(seats)]


def bars(columns, prices):
    """All seats that may be barred together, with their sums."""
    seats = [(place, row) for place, row in seats_of(columns) if prices[place][row] is not None]
    return [(total(prices, some), some) for some in subsets(seats)]


def wins_all(frame, columns):
    return not columns or len(plain_moments(web_of(frame, columns))) == len(columns) * frame.width


def plain_fewest(frame, columns, prices):
    """The least sum of a lot with which all are won, None if there is none."""
    return min([cost for cost, some in lots(columns, prices) if wins_all(frame, started(columns, some))], default=None)


def guards_all(frame, columns, watched):
    return not [seat for seat in watched if seat in plain_moments(web_of(frame, columns))]


def plain_guard(frame, columns, prices, watched):
    """The least sum of a guard, None if there is none."""
    return min([cost for cost, some in bars(columns, prices) if guards_all(frame, barred(columns, some), watched)],
               default=None)


def random_prices(chance, stretch, none=0.2, most=3):
    return [tuple(None if chance.random() < none else chance.randint(0, most) for _ in range(stretch.frame.width))
            for _ in range(len(stretch))]


def priced_webs(seed, many, seats=7, starters=0.2):
    """Open webs with prices, with so many seats at most."""
    chance = random.Random(seed)
    found = []
    for _ in range(many):
        frame = random_frame(chance)
        stretch = random_stretch(chance, frame, 1, max(1, seats // frame.width), starters)
        found.append((Web(stretch), random_prices(chance, stretch, chance.choice([0, 0.2, 0.5]))))
    return found


def random_priced_family(chance, frame=None, most=2, starters=0.1):
    frame = random_frame(chance) if frame is None else frame
    body = random_stretch(chance, frame, 1, most, starters)
    head, tail = [chance.choice([None, random_stretch(chance, frame, 0, most, 0.2)]) for _ in range(2)]
    family = Family(body, head=head, tail=tail)
    none = chance.choice([0, 0, 0.2])
    return family, tuple(random_prices(chance, part, none) for part in (family.head, family.body, family.tail))


def priced_families(seed, many, **bounds):
    """Open families with prices."""
    chance = random.Random(seed)
    return [random_priced_family(chance, **bounds) for _ in range(many)]


class PlainCourse:
    """The fronts of a family and their steps, each found by a walk through columns of which it is the front."""

    def __init__(self, family, prices):
        self.frame = family.body.frame
        self.prices = prices
        self.body, self.tail = family.body.columns, family.tail.columns
        self.columns = {}
        self.starts = self.reached([], family.head.columns, prices[0])
        self.steps = {}
        waiting = list(self.starts)
        while waiting:
            front = waiting.pop()
            if front not in self.steps:
                self.steps[front] = self.reached(self.columns[front], self.body, prices[1])
                waiting += list(self.steps[front])
        self.finishes = {front: self.finish(front) for front in self.steps}

    def reached(self, ahead, columns, prices):
        """The fronts behind some columns and some more, by all choices of these, with the least sums."""
        found = {}
        for cost, some in lots(columns, prices):
            line = ahead + started(columns, some)
            front = plain_front(self.frame, line)
            self.columns.setdefault(front, line)
            found[front] = min(cost, found.get(front, cost))
        return found

    def finish(self, front):
        ahead = self.columns[front]
        return min([cost for cost, some in lots(self.tail, self.prices[2])
                    if wins_all(self.frame, ahead + started(self.tail, some))], default=None)

    def needs(self, many):
        found = [dict(self.finishes)]
        for _ in range(many - 1):
            found.append({front: min([cost + found[-1][behind] for behind, cost in steps.items()
                                      if found[-1][behind] is not None], default=None)
                          for front, steps in self.steps.items()})
        return found

    def useful(self):
        found = [front for front in self.steps if self.finishes[front] is not None]
        while True:
            more = [front for front in self.steps if front not in found and any(b in found for b in self.steps[front])]
            if not more:
                return found
            found += more

    def rings(self):
        """The sum and the number of steps of each ring that meets no front twice."""
        fronts = self.useful()
        found = []

        def go(first, walk, cost):
            for behind, price in self.steps[walk[-1]].items():
                if behind == first:
                    found.append((cost + price, len(walk)))
                elif behind in fronts and behind not in walk and fronts.index(behind) > fronts.index(first):
                    go(first, walk + [behind], cost + price)

        for first in fronts:
            go(first, [first], 0)
        return found


def shape_of_priced(family, prices):
    return repr([shape_of(part) for part in (family.head, family.body, family.tail)]) + repr(prices)


def shape_of_web(web, prices):
    return shape(web) + repr(prices)


def no_prices_for(good, width):
    """Values that are no prices for so many columns of a width as these are, many of them near to these."""
    # Among the odd values are prices for no column, and for one of width 3.
    odd = [value for value in odd_values() if repr(value) not in ("[]", "[(0, 0, 0)]") or len(value) != len(good)
           or (value and width != 3)]
    found = odd + [tuple(good), good + [(0,) * width], [(0,) * width] + good]
    for place, column in enumerate(good):
        rest = good[:place], good[place + 1:]
        found += [rest[0] + rest[1], rest[0] + [column, column] + rest[1], rest[0] + [list(column)] + rest[1],
                  rest[0] + [column + (0,)] + rest[1], rest[0] + [column[1:]] + rest[1], rest[0] + [None] + rest[1],
                  rest[0] + [{}] + rest[1], rest[0] + [0] + rest[1]]
        for row in range(len(column)):
            for value in NO_PRICES:
                found.append(rest[0] + [column[:row] + (value,) + column[row + 1:]] + rest[1])
    return found


def no_fronts(front):
    """Values that have not the form of a front, near to one that has."""
    found = [list(front), front[:-1], front[1:], front + front[-1:], (front,), (), None, dict(front[:1]), repr(front)]
    width = {2: 1, 4: 2, 8: 3}[len(front)]
    for place, (rows, full) in enumerate(front):
        wrong = [(rows, int(full)), (rows, None), (rows, "True"), (rows, ()), [rows, full], (list(rows), full), (rows,),
                 (rows, full, full), (full, rows), (rows + (width,), full), (rows + (-1,), full), rows, None, full, (),
                 (rows + rows[:1], full) if rows else ((None,), full), (None, full), ("", full), ({}, full),
                 (rows[::-1], full) if len(rows) > 1 else (("0",), full), ([], full), (((0,),), full), (([],), full)]
        if rows and rows[0] < 2:
            wrong.append(((bool(rows[0]),) + rows[1:], full))
        if rows and rows[-1] == 1:
            wrong.append((rows[:-1] + (True,), full))
        found += [front[:place] + (value,) + front[place + 1:] for value in wrong]
    return found
