"""Points 17 and 18: views, stretches that are alike, and columns that part two stretches."""

import itertools
import random
import unittest

from sparkrows.errors import NoColumns, OtherFrame
from sparkrows.frames import Frame, Stretch, is_column, mirrored
from sparkrows.tables import table_of
from sparkrows.views import alike, parts, surrounding, view
from tests.helpers import (held, ladder, odd_values, plain_entry, plain_neighbours, plain_pairs, plain_rows,
                           random_frame, random_stretch, shape_of, web_of)

PATH = Frame(1, outer=[(0, 0)])
ZERO, ONE, TWO, THREE, NEVER, SPARK = [Stretch(PATH, [(cell,)]) for cell in (
    (0, False), (1, False), (2, False), (3, False), (9, False), (0, True))]
CELLS = [(need, starts) for need in (0, 1, 2, 3, 9) for starts in (False, True)]


def plain_view(stretch):
    """The view, by plain walks with the columns around held, and the neighbours as the web tells them."""
    frame, many = stretch.frame, len(stretch)
    found = {}
    for left, right in plain_pairs(frame.width):
        web = web_of(frame, [held(frame, left), *stretch.columns, held(frame, right)])
        rows, near = plain_rows(web), plain_neighbours(web)
        inside = {(column, row) for column in range(1, many + 1) for row in rows[column]}
        counts = [tuple(None if row in side else len(near[column, row] & inside) for row in range(frame.width))
                  for column, side in ((0, left), (many + 1, right))]
        found[left, right] = (*counts, plain_entry(stretch, left, right)[2])
    return found


def seen(stretch, left, right):
    """What is won of the columns around, and whether all of the stretch is, by a plain walk."""
    rows = plain_rows(web_of(stretch.frame, [left, *stretch.columns, right]))
    return rows[0], rows[-1], all(len(side) == stretch.frame.width for side in rows[1:-1])


def some_pairs(seed, many):
    """Stretches of one frame, some of them alike."""
    chance = random.Random(seed)
    found = []
    for _ in range(many):
        frame = random_frame(chance)
        one = random_stretch(chance, frame)
        other = chance.choice([random_stretch(chance, frame), one * 2, Stretch(frame, one.columns[::-1]),
                               Stretch(frame, one.columns + one.columns[-1:]), random_stretch(chance, frame, 1, 1)])
        found.append((one, other))
    return found


def random_column(chance, frame):
    return tuple(chance.choice(CELLS) for _ in range(frame.width))


class ViewTest(unittest.TestCase):

    def test_by_hand(self):
        self.assertEqual(view(TWO), {((), ()): ((0,), (0,), False), ((0,), ()): ((None,), (0,), False),
                                     ((), (0,)): ((0,), (None,), False), ((0,), (0,)): ((None,), (None,), True)})
        self.assertEqual(view(stretch=SPARK), {((), ()): ((1,), (1,), True), ((0,), ()): ((None,), (1,), True),
                                               ((), (0,)): ((1,), (None,), True),
                                               ((0,), (0,)): ((None,), (None,), True)})

    def test_each_side_sees_by_its_own_pairs(self):
        # Row 0 ahead sees both rows of the first column, row 1 behind sees row 0 of the last one.
        frame = Frame(2, outer=[(0, 0), (0, 1)])
        stretch = Stretch(frame, [((0, True), (0, True)), ((0, True), (9, False))])
        told = view(stretch)
        self.assertEqual(told[(), ()], ((2, 0), (1, 1), False))
        self.assertEqual(told[(1,), (0,)], ((2, None), (None, 1), False))
        self.assertEqual(told[(0, 1), (0, 1)], ((None, None), (None, None), False))
        self.assertEqual(view(mirrored(stretch))[(0,), (1,)], ((None, 1), (2, None), False))

    def test_against_a_walk(self):
        chance = random.Random(71)
        for _ in range(120):
            stretch = random_stretch(chance, random_frame(chance), most=4)
            before = shape_of(stretch)
            told = view(stretch)
            self.assertIs(type(told), dict)
            self.assertEqual(repr(sorted(told.items())), repr(sorted(plain_view(stretch).items())))
            self.assertEqual(shape_of(stretch), before)

    def test_it_is_told_anew(self):
        before = view(TWO)
        view(TWO).clear()
        view(TWO)[(), ()] = None
        self.assertEqual(view(TWO), before)

    def test_no_columns(self):
        for width in (1, 2, 3):
            with self.assertRaises(NoColumns):
                view(Stretch(ladder(width), []))


class AlikeTest(unittest.TestCase):

    def test_unlike_tables_with_one_view(self):
        for one, other in ((ONE + NEVER, NEVER), (TWO * 2, NEVER), (THREE, NEVER), (NEVER + ONE, NEVER),
                           (ONE, ONE * 3), (SPARK, ZERO), (SPARK * 4, ZERO * 2), (TWO * 2, TWO * 3)):
            self.assertIs(alike(one, other), True)
            self.assertIs(alike(one=other, other=one), True)
            self.assertIsNone(surrounding(one, other))
            self.assertIsNone(surrounding(other, one))
        self.assertFalse(table_of(ONE + NEVER) == table_of(NEVER))

    def test_unlike_ones(self):
        singles = [ONE, TWO, NEVER, SPARK]
        for one, other in itertools.permutations(singles, 2):
            self.assertIs(alike(one, other), False)
        # One of them is never full, and that is all.
        alone = Frame(1)
        one, other = Stretch(alone, [((0, True),)]), Stretch(alone, [((9, False),)])
        self.assertIs(alike(one, other), False)
        self.assertTrue(parts(one, other, ((9, False),), ((9, False),)))
        self.assertIs(parts(one, other, *surrounding(one, other)), True)

    def test_unlike_to_one_side_only(self):
        for one, other in ((ONE + NEVER + SPARK, SPARK + NEVER + SPARK), (SPARK + NEVER + ONE, SPARK + NEVER + SPARK),
                           (NEVER * 2, NEVER + SPARK), (NEVER * 2, SPARK + NEVER)):
            self.assertIs(alike(one, other), False)
            left, right = surrounding(one, other)
            self.assertNotEqual(seen(one, left, right), seen(other, left, right))

    def test_by_the_views(self):
        found = {True: 0, False: 0}
        for one, other in some_pairs(72, 150):
            same = plain_view(one) == plain_view(other)
            self.assertIs(alike(one, other), same)
            found[same] += 1
        self.assertGreater(min(found.values()), 20)

    def test_alike_ones_are_never_parted(self):
        # Alike stretches with unlike tables, among all short paths.
        short = [Stretch(PATH, [(cell,) for cell in cells]) for many in (1, 2)
                 for cells in itertools.product([(1, False), (2, False), (9, False), (0, True)], repeat=many)]
        columns = [((1, False),), ((2, False),), ((9, False),), ((0, True),)]
        for one, other in itertools.combinations(short, 2):
            told = [parts(one, other, left, right) for left in columns for right in columns]
            self.assertIs(alike(one, other), True not in told)

    def test_one_in_the_place_of_the_other(self):
        chance = random.Random(73)
        for one, other in [pair for pair in some_pairs(74, 200) if alike(*pair)]:
            frame = one.frame
            around = [random_column(chance, frame) for _ in range(chance.randint(1, 4))]
            place = chance.randint(0, len(around))
            closed = chance.random() < 0.5 and len(around) + min(len(one), len(other)) >= 3
            told = []
            for stretch in (one, other):
                rows = plain_rows(web_of(frame, around[:place] + stretch.columns + around[place:], closed))
                inside = rows[place:place + len(stretch)]
                told.append((rows[:place], rows[place + len(stretch):],
                             all(len(side) == frame.width for side in inside)))
            self.assertEqual(told[0], told[1])


class SurroundingTest(unittest.TestCase):

    def test_they_part(self):
        found = 0
        for one, other in some_pairs(75, 250):
            before = shape_of(one), shape_of(other)
            told = surrounding(one=one, other=other)
            self.assertIs(told is None, alike(one, other))
            if told is not None:
                found += 1
                self.assertIs(type(told), tuple)
                left, right = told
                self.assertTrue(is_column(one.frame, left) and is_column(one.frame, right))
                self.assertNotEqual(seen(one, left, right), seen(other, left, right))
                self.assertIs(parts(one, other, left, right), True)
                self.assertIs(parts(other, one, left, right), True)
            self.assertEqual((shape_of(one), shape_of(other)), before)
        self.assertGreater(found, 60)

    def test_both_ends_see_something_else(self):
        # Each of the two sends something on, the one ahead and the other one behind.
        for one, other in ((SPARK + NEVER, NEVER + SPARK), (SPARK + NEVER + ONE, ONE + NEVER + SPARK),
                           (ONE + NEVER + SPARK, SPARK + NEVER), (SPARK + TWO + NEVER, NEVER + TWO + SPARK)):
            for pair in ((one, other), (other, one)):
                left, right = surrounding(*pair)
                self.assertNotEqual(seen(one, left, right), seen(other, left, right))

    def test_one_row_that_joins_is_enough(self):
        # The one is seen more of from ahead, the other one from behind; a row that joins there lets the first one join.
        frame = Frame(3, inner=[(0, 1), (0, 2), (1, 2)], outer=[(a, b) for a in range(3) for b in range(3)])
        for one, other in (
                ([((3, False), (4, True), (3, True)), ((4, False), (3, False), (4, False))],
                 [((2, False), (3, False), (2, False)), ((2, True), (2, False), (3, False))]),
                ([((2, False),) * 3, ((3, False), (3, False), (2, False)), ((3, True), (3, False), (2, False))],
                 [((2, False), (3, False), (2, True)), ((3, False), (2, False), (3, False)),
                  ((3, False), (3, False), (2, False))])):
            one, other = Stretch(frame, one), Stretch(frame, other)
            for pair in ((one, other), (other, one), (mirrored(one), mirrored(other))):
                left, right = surrounding(*pair)
                self.assertNotEqual(seen(pair[0], left, right), seen(pair[1], left, right))

    def test_a_row_sees_many(self):
        frame = Frame(3, inner=[(0, 1), (1, 2), (0, 2)], outer=[(a, b) for a in range(3) for b in range(3)])
        full, less = Stretch(frame, [((9, True),) * 3]), Stretch(frame, [((9, True), (9, True), (9, False))])
        never = Stretch(frame, [((9, False),) * 3])
        for one, other in itertools.permutations((full, less, never, full + never, never + full), 2):
            if not alike(one, other):
                left, right = surrounding(one, other)
                self.assertNotEqual(seen(one, left, right), seen(other, left, right))

    def test_rows_beside_count(self):
        # What is unlike is seen only with rows ahead that are in, and that are neighbours of the row that sees it.
        chance = random.Random(76)
        found = 0
        for _ in range(150):
            inner = [(0, 1), (1, 2)] if chance.random() < 0.5 else [(0, 1), (0, 2), (1, 2)]
            frame = Frame(3, inner=inner, outer=[(a, b) for a in range(3) for b in range(3) if chance.random() < 0.6])
            one, other = [random_stretch(chance, frame, 1, 2, 0.1) for _ in range(2)]
            told = surrounding(one, other)
            if told is not None:
                found += 1
                self.assertNotEqual(seen(one, *told), seen(other, *told))
        self.assertGreater(found, 40)


class PartsTest(unittest.TestCase):

    def test_by_hand(self):
        spark, one, two, never = ((0, True),), ((1, False),), ((2, False),), ((9, False),)
        self.assertIs(parts(TWO, NEVER, spark, spark), True)
        self.assertIs(parts(TWO, NEVER, spark, one), False)
        self.assertIs(parts(TWO, NEVER, left=never, right=never), False)
        self.assertIs(parts(SPARK, NEVER, one, never), True)
        self.assertIs(parts(SPARK, NEVER, two, never), True)
        self.assertIs(parts(one=SPARK + NEVER, other=NEVER * 2, left=two, right=two), False)
        self.assertIs(parts(SPARK + NEVER, NEVER * 2, one, two), True)
        self.assertIs(parts(NEVER + SPARK, NEVER * 2, two, one), True)
        # The columns around are not asked whether the same seats within are won.
        self.assertIs(parts(SPARK + NEVER + NEVER, SPARK + NEVER, one, one), False)

    def test_against_the_webs(self):
        chance = random.Random(77)
        told = {True: 0, False: 0}
        for one, other in some_pairs(78, 200):
            before = shape_of(one), shape_of(other)
            for _ in range(4):
                left, right = random_column(chance, one.frame), random_column(chance, one.frame)
                expected = seen(one, left, right) != seen(other, left, right)
                self.assertIs(parts(one, other, left, right), expected)
                told[expected] += 1
            self.assertEqual((shape_of(one), shape_of(other)), before)
        self.assertGreater(min(told.values()), 100)

    def test_values_of_any_kind(self):
        for one, other, good in ((SPARK, NEVER, ((1, False),)), (Stretch(ladder(2), [((0, True), (0, True))]),
                                                                Stretch(ladder(2), [((9, False), (9, False))]),
                                                                ((1, False), (1, False)))):
            self.assertIs(parts(one, other, good, good), True)
            wrong = odd_values() + [list(good), good + good[:1], good[1:], good[0], "", (good, good), (good,),
                                    tuple(list(cell) for cell in good), ((1, 0),) * len(good),
                                    ((True, False),) * len(good), ((10, False),) * len(good),
                                    ((-1, False),) * len(good), ((1, None),) * len(good), ((1,),) * len(good)]
            for value in wrong:
                self.assertIs(parts(one, other, value, good), False)
                self.assertIs(parts(one, other, good, value), False)
                self.assertIs(parts(one, other, value, value), False)


class ErrorsTest(unittest.TestCase):

    def asked(self, one, other):
        """The three questions about these stretches, the last one also with values that are no columns."""
        column = ((1, False),) * one.frame.width
        return [lambda: alike(one, other), lambda: surrounding(one, other), lambda: parts(one, other, column, column),
                lambda: parts(one, other, None, [1])]

    def test_other_frames_come_first(self):
        two = ladder(2)
        stretches = [ONE, Stretch(PATH, []), Stretch(Frame(1), []), Stretch(Frame(1), [((1, False),)]),
                     Stretch(two, []), Stretch(two, [((1, False), (1, False))]),
                     Stretch(Frame(2, outer=two.outer), [((1, False), (1, False))])]
        for one, other in itertools.permutations(stretches, 2):
            if one.frame != other.frame:
                for ask in self.asked(one, other):
                    with self.assertRaises(OtherFrame):
                        ask()

    def test_no_columns(self):
        for frame in (PATH, ladder(2), ladder(3)):
            none, some = Stretch(frame, []), Stretch(frame, [((1, False),) * frame.width])
            for one, other in ((none, some), (some, none), (none, none)):
                for ask in self.asked(one, other):
                    with self.assertRaises(NoColumns):
                        ask()

    def test_frames_that_are_equal(self):
        one = Stretch(Frame(2, inner=[(0, 1)], outer=[(1, 1), (0, 0)]), [((1, False), (1, False))])
        other = Stretch(ladder(2), [((1, False), (1, False))])
        self.assertIs(alike(one, other), True)


if __name__ == "__main__":
    unittest.main()
