"""Point 19: fronts."""

import itertools
import random
import unittest

from sparkrows.frames import Frame, Stretch
from sparkrows.fronts import first_front, front_of, is_front, onward
from tests.helpers import deep, ladder, odd_values, random_frame, random_stretch, shape_of
from tests.priced import ascending_sides, no_fronts, plain_front

PATH = Frame(1, outer=[(0, 0)])
TWO, SPARK, NONE = [Stretch(PATH, cells) for cells in ([((2, False),)], [((0, True),)], [])]


def stretches(seed, many, least=0, most=4):
    chance = random.Random(seed)
    return [random_stretch(chance, random_frame(chance), least, most) for _ in range(many)]


def is_form(width, front):
    """Whether a front of the right kinds never falls, for all sides of which one is in the other."""
    told = dict(zip(ascending_sides(width), front))
    return all(set(told[less][0]) <= set(told[more][0]) and (told[more][1] or not told[less][1])
               for less in told for more in told if set(less) <= set(more))


def random_front(chance, width):
    """A front that need not be that of a stretch."""
    sides = ascending_sides(width)
    drawn = {side: (chance.choice(sides), chance.random() < 0.2) if chance.random() < 0.5 else ((), False)
             for side in sides}
    found = []
    for side in sides:
        below = [drawn[less] for less in sides if set(less) <= set(side)]
        found.append((tuple(sorted({row for rows, _ in below for row in rows})), any(full for _, full in below)))
    return tuple(found)


class FrontTest(unittest.TestCase):

    def test_no_columns(self):
        self.assertEqual(first_front(1), (((), True), ((), True)))
        self.assertEqual(first_front(width=2), (((), True),) * 4)
        self.assertEqual(first_front(3), (((), True),) * 8)
        for width in (1, 2, 3):
            self.assertIs(type(first_front(width)), tuple)
            self.assertEqual(front_of(Stretch(ladder(width), [])), first_front(width))

    def test_by_hand(self):
        self.assertEqual(front_of(TWO), (((), False), ((), False)))
        self.assertEqual(front_of(stretch=SPARK), (((0,), True), ((0,), True)))
        self.assertEqual(front_of(SPARK + TWO), (((), False), ((0,), True)))
        self.assertEqual(front_of(SPARK + TWO * 2), (((), False), ((), False)))
        self.assertEqual(onward(PATH, front_of(SPARK), ((2, False),)), (((), False), ((0,), True)))
        # The last column has all its rows; the part has not.
        self.assertEqual(front_of(TWO + SPARK), (((0,), False), ((0,), False)))

    def test_a_way_back_through_the_part(self):
        # What comes from behind in row 0 turns at the first column, and comes back in row 1.
        frame = Frame(2, inner=[(0, 1)], outer=[(0, 0), (1, 1)])
        line = Stretch(frame, [((1, False), (1, False))] + [((1, False), (2, False))] * 3)
        told = dict(zip(ascending_sides(2), front_of(line)))
        self.assertEqual(told, {(): ((), False), (0,): ((0, 1), True), (0, 1): ((0, 1), True), (1,): ((), False)})
        turned = Stretch(Frame(2, outer=[(0, 0), (1, 1)]), line.columns)
        self.assertEqual(dict(zip(ascending_sides(2), front_of(turned)))[0,], ((0,), False))

    def test_against_a_walk(self):
        seen = {1: 0, 2: 0, 3: 0}
        for stretch in stretches(81, 250):
            before = shape_of(stretch)
            front = front_of(stretch)
            self.assertEqual(repr(front), repr(plain_front(stretch.frame, stretch.columns)))
            self.assertEqual(shape_of(stretch), before)
            seen[stretch.frame.width] += 1
        self.assertGreater(min(seen.values()), 40)

    def test_twenty_columns(self):
        for stretch in stretches(82, 5, 20, 20):
            self.assertEqual(front_of(stretch), plain_front(stretch.frame, stretch.columns))

    def test_one_more_column(self):
        for stretch in stretches(83, 150, 1):
            frame, columns = stretch.frame, stretch.columns
            ahead = front_of(Stretch(frame, columns[:-1]))
            before = repr(ahead)
            self.assertEqual(onward(frame=frame, front=ahead, column=columns[-1]), front_of(stretch))
            self.assertEqual(repr(ahead), before)

    def test_behind_fronts_of_no_stretch(self):
        # Told by the words of the document, side by side.
        chance = random.Random(84)
        for _ in range(150):
            frame = random_frame(chance)
            front = random_front(chance, frame.width)
            column = random_stretch(chance, frame, 1, 1).columns[0]
            told = dict(zip(ascending_sides(frame.width), front))
            expected = []
            for side in ascending_sides(frame.width):
                rows = ()
                for _ in range(10):
                    ahead = told[rows][0]
                    rows = tuple(row for row in range(frame.width) if self.comes_in(frame, column, row, ahead, side))
                expected.append((rows, told[rows][1] and len(rows) == frame.width))
            self.assertEqual(onward(frame, front, column), tuple(expected))

    def comes_in(self, frame, column, row, ahead, side):
        """Whether a row comes to be in between two sides that are held, with the rows beside it."""
        rows = {some for some in range(frame.width) if column[some][1]}
        for _ in range(4):
            for some, (need, _) in enumerate(column):
                near = len(set(frame.back(some)) & set(ahead)) + len(set(frame.onward(some)) & set(side))
                if near + len(set(frame.beside(some)) & rows) >= need:
                    rows.add(some)
        return row in rows


class FormTest(unittest.TestCase):

    def test_fronts_have_the_form(self):
        for stretch in stretches(85, 120):
            self.assertIs(is_front(stretch.frame.width, front_of(stretch)), True)
        chance = random.Random(86)
        for _ in range(200):
            width = chance.randint(1, 3)
            self.assertIs(is_front(width=width, value=random_front(chance, width)), True)

    def test_all_there_could_be_of_width_one(self):
        told = [(rows, full) for rows in ((), (0,)) for full in (False, True)]
        taken = [front for front in itertools.product(told, repeat=2) if is_front(1, front)]
        self.assertEqual(taken, [front for front in itertools.product(told, repeat=2) if is_form(1, front)])
        self.assertEqual(len(taken), 9)

    def test_one_thing_exchanged(self):
        chance = random.Random(87)
        seen = [0, 0]
        for _ in range(500):
            width = chance.randint(1, 3)
            front = list(random_front(chance, width))
            front[chance.randrange(len(front))] = (chance.choice(ascending_sides(width)), chance.random() < 0.5)
            seen[is_form(width, front)] += 1
            self.assertIs(is_front(width, tuple(front)), is_form(width, front))
        self.assertGreater(min(seen), 80)

    def test_fronts_that_fall(self):
        for width in (1, 2, 3):
            full, many = tuple(range(width)), 2 ** width
            for place, side in enumerate(ascending_sides(width)):
                if side != full:
                    for told in (((0,), False), ((), True), ((width - 1,), False)):
                        front = [((), False)] * many
                        front[place] = told
                        self.assertIs(is_front(width, tuple(front)), False)
                if side != ():
                    for told in ((full[1:], True), (full[:-1], True), (full, False)):
                        front = [(full, True)] * many
                        front[place] = told
                        self.assertIs(is_front(width, tuple(front)), False)
        # As many rows as before are not enough: each single one is kept.
        self.assertIs(is_front(2, (((), False), ((), False), ((1,), False), ((0,), False))), False)
        self.assertIs(is_front(2, (((), False), ((1,), False), ((0, 1), False), ((0,), False))), True)

    def test_values_near_to_a_front(self):
        for width in (1, 2, 3):
            full = tuple(range(width))
            for front in (first_front(width), ((full, True),) * 2 ** width, ((full[:1], False),) * 2 ** width,
                          ((full[-1:], False),) * 2 ** width):
                self.assertIs(is_front(width, front), True)
                for value in no_fronts(front):
                    self.assertIs(is_front(width, value), False)

    def test_fronts_of_another_width(self):
        for width, other in itertools.permutations((1, 2, 3), 2):
            self.assertIs(is_front(width, first_front(other)), False)
        self.assertIs(is_front(1, (((), False), ((1,), False))), False)
        self.assertIs(is_front(2, (((), False),) * 2 + (((0, 2), False), ((), False))), False)

    def test_values_of_any_kind(self):
        for width in (1, 2, 3):
            many = 2 ** width
            for value in odd_values() + [deep(lambda value: (value,) * 2, 12), ((), 1), (((), True),), [(), True]]:
                self.assertIs(is_front(width, value), False)
                self.assertIs(is_front(width, (value,) * many), False)
                self.assertIs(is_front(width, ((value, True),) * many), repr(value) in ("()", "(0,)"))
                self.assertIs(is_front(width, (((), value),) * many), isinstance(value, bool))


if __name__ == "__main__":
    unittest.main()
