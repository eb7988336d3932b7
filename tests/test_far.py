"""Points 5, 6, 14 and 16: seats of webs of any size, how many are won, and what parts two families."""

import itertools
import random
import unittest

from sparkrows.errors import NoSeat, NoWeb, OtherShape
from sparkrows.far import count, is_in, parting
from sparkrows.frames import Frame, Stretch
from sparkrows.powers import Family
from tests.families import (CROSSED, LATE, LOWER, NEVER, ONE, SPARK, TURNING, TWO, UPPER, WHEEL, WHEELING, WHEEL_HEAD,
                            late_families, no_sizes, plain_web, random_families, random_family, shape_of_family,
                            some_families)
from tests.helpers import GREAT, is_plain_integer, ladder, odd_values, plain_moments, random_frame, random_stretch

# The turn of each family that is met here divides it.
TURNS = 6


def plain_ends(family, size):
    """The seats of the head and of the tail that are won at a size, those of the tail counted from the end."""
    seats, columns = plain_moments(plain_web(family, size)), family.length(size)
    head = sorted([seat for seat in seats if seat[0] < len(family.head)])
    tail = sorted([(column - columns, row) for column, row in seats if columns - column <= len(family.tail)])
    return head, tail


def plain_parting(one, other, most=12):
    for size in range(most):
        if plain_web(one, size) is not None and plain_web(other, size) is not None:
            if plain_ends(one, size) != plain_ends(other, size):
                return size
    return None


class SmallTest(unittest.TestCase):

    def test_each_seat_and_how_many(self):
        for family in random_families(51, 100) + late_families(63, 30) + some_families():
            before = shape_of_family(family)
            for size in (0, 1, 2, 3, 5, 8):
                web = plain_web(family, size)
                if web is None:
                    continue
                seats = plain_moments(web)
                self.assertEqual(repr(count(family, size)), repr(len(seats)))
                for column, row in web.seats():
                    self.assertIs(is_in(family, size, column, row), (column, row) in seats)
            self.assertEqual(shape_of_family(family), before)

    def test_longer_parts(self):
        for family in random_families(52, 12, most=5):
            for size in (1, 4):
                web = plain_web(family, size)
                if web is not None:
                    seats = plain_moments(web)
                    self.assertEqual(count(family=family, size=size), len(seats))
                    for column, row in web.seats():
                        told = is_in(family=family, size=size, column=column, row=row)
                        self.assertIs(told, (column, row) in seats)

    def test_count_at_each_size(self):
        for family in random_families(53, 30) + late_families(64, 60) + some_families():
            for size in range(20):
                web = plain_web(family, size)
                if web is not None:
                    self.assertEqual(count(family, size), len(plain_moments(web)))

    def test_bodies_near_both_ends_are_counted_once(self):
        frame = Frame(3, inner=[(0, 1), (1, 2)], outer=[(0, 0), (0, 1), (0, 2), (1, 2)])
        one = Family(Stretch(frame, [((2, False), (2, False), (3, False))]),
                     tail=Stretch(frame, [((1, True), (1, True), (1, True))]))
        frame = Frame(3, inner=[(0, 1)], outer=[(0, 2), (1, 2), (2, 0)])
        head, body, tail = [Stretch(frame, [column]) for column in (
            ((2, True), (1, True), (9, True)), ((1, False), (2, False), (1, False)),
            ((2, False), (9, True), (9, False)))]
        for family in (one, Family(body, head=head, tail=tail)):
            for size in range(1, 16):
                self.assertEqual(count(family, size), len(plain_moments(plain_web(family, size))))

    def test_twenty_columns_in_each_part(self):
        chance = random.Random(54)
        for closed in (False, True):
            frame = ladder(3)
            family = Family(random_stretch(chance, frame, 20, 20), head=random_stretch(chance, frame, 20, 20),
                            tail=random_stretch(chance, frame, 20, 20), closed=closed)
            seats = plain_moments(plain_web(family, 1))
            self.assertEqual(count(family, 1), len(seats))
            for column in range(0, 60, 7):
                self.assertEqual([is_in(family, 1, column, row) for row in range(3)],
                                 [(column, row) in seats for row in range(3)])


class GreatTest(unittest.TestCase):

    def test_by_hand(self):
        for size in (10 ** 50, GREAT, 10 ** 60 - 1):
            won, ends = Family(ONE, head=SPARK), Family(TWO, head=SPARK, tail=SPARK)
            self.assertEqual(count(won, size), size + 1)
            self.assertIs(is_in(won, size, size, 0), True)
            self.assertEqual(count(ends, size), 2)
            self.assertEqual([is_in(ends, size, column, 0) for column in (0, 1, size // 2, size, size + 1)],
                             [True, False, False, False, True])
            self.assertEqual(count(Family(SPARK + TWO + ONE, closed=True), size), 3 * size)
            self.assertEqual(count(Family(SPARK + NEVER + ONE + ONE), size), 3 * size - 2)
            self.assertEqual(count(Family(NEVER + ONE, tail=SPARK), size), 2)
            self.assertEqual(count(Family(ONE, tail=NEVER, closed=True), size), 0)

    def test_a_way_that_changes_rows(self):
        family = Family(TURNING, head=LOWER)
        for size in (10 ** 30, 10 ** 59 + 1):
            for column in list(range(4)) + [10 ** 25, 10 ** 25 + 1, size - 1, size]:
                self.assertEqual([is_in(family, size, column, row) for row in (0, 1)],
                                 [column % 2 == 0, column % 2 == 1])
            self.assertEqual(count(family, size), size + 1)
            ring = Family(TURNING, head=LOWER, closed=True)
            full = size % 2 == 0
            self.assertEqual(count(ring, size), 2 * (size + 1) if full else size + 1)
            self.assertIs(is_in(ring, size, size // 2, 0), full or size // 2 % 2 == 0)

    def test_three_rows_in_turn(self):
        family = Family(WHEELING * 2, head=WHEEL_HEAD, tail=Stretch(WHEEL, [((9, False),) * 3]))
        size = 10 ** 40
        for column in (0, 1, 2, 3, 10 ** 39, 10 ** 39 + 1, 10 ** 39 + 2, 2 * size - 1, 2 * size):
            # With each column the spark goes on by two rows, so back by one.
            self.assertEqual([row for row in range(3) if is_in(family, size, column, row)], [-column % 3])
        self.assertEqual(count(family, size), 2 * size + 1)
        self.assertIs(is_in(family, size, 2 * size + 1, 0), False)

    def test_near_the_ends_all_is_as_some_turns_earlier(self):
        chance = random.Random(55)
        for family in random_families(56, 60) + some_families():
            small = 24 + chance.randrange(TURNS)
            great = small + TURNS * chance.randrange(10 ** 57)
            body = len(family.body)
            for number in (0, 1, 2, 3, 9, 10):
                for place in range(body):
                    row = chance.randrange(family.body.frame.width)
                    column = len(family.head) + number * body + place
                    self.assertIs(is_in(family, great, column, row), is_in(family, small, column, row))
                    column = family.length(small) - 1 - column
                    if column >= 0:
                        later = column + family.length(great) - family.length(small)
                        self.assertIs(is_in(family, great, later, row), is_in(family, small, column, row))

    def test_in_between_all_is_as_some_turns_earlier(self):
        chance = random.Random(57)
        for family in random_families(58, 60) + some_families():
            number = 20 + chance.randrange(TURNS)
            ahead = number + TURNS * chance.randrange(10 ** 50)
            size = number + 30 + chance.randrange(TURNS)
            great = size + ahead - number + TURNS * chance.randrange(10 ** 55)
            for place in range(len(family.body)):
                row = chance.randrange(family.body.frame.width)
                column = len(family.head) + place
                self.assertIs(is_in(family, great, column + ahead * len(family.body), row),
                              is_in(family, size, column + number * len(family.body), row))

    def test_count_rises_by_the_same_with_each_turn(self):
        chance = random.Random(59)
        for family in random_families(60, 80) + some_families():
            size = 20 + chance.randrange(TURNS)
            low, high = [len(plain_moments(plain_web(family, some))) for some in (size, size + TURNS)]
            for turns in (1, 10 ** 20, chance.randrange(10 ** 57)):
                self.assertEqual(count(family, size + turns * TURNS), low + turns * (high - low))

    def test_no_walk(self):
        family = Family(TURNING, head=LOWER, tail=UPPER)
        for k in range(200):
            size = GREAT + k
            self.assertIs(is_in(family, size, 10 ** 40 + k, 0), k % 2 == 0 or size % 2 == 1)


class NoSeatTest(unittest.TestCase):

    def test_no_web_comes_first(self):
        for family, without in ((Family(ONE), [0]), (Family(ONE, closed=True), [0, 1, 2]), (some_families()[3], [])):
            for value in no_sizes() + without:
                for column, row in ((0, 0), (None, None), (-1, 9), (value, value)):
                    with self.assertRaises(NoWeb) as caught:
                        is_in(family, value, column, row)
                    self.assertIs(caught.exception.value, value)
                with self.assertRaises(NoWeb) as caught:
                    count(family, value)
                self.assertIs(caught.exception.value, value)

    def refused(self, family, size, column, row):
        with self.assertRaises(NoSeat) as caught:
            is_in(family, size, column, row)
        value = caught.exception.value
        self.assertIs(type(value), tuple)
        self.assertEqual(len(value), 2)
        self.assertIs(value[0], column)
        self.assertIs(value[1], row)

    def test_values_of_any_kind(self):
        for family, size in ((Family(TURNING, head=LOWER), 3), (Family(TURNING, head=LOWER, closed=True), GREAT),
                             (Family(ONE, tail=TWO), 10 ** 50)):
            columns, width = family.length(size), family.body.frame.width
            for value in odd_values():
                if not (is_plain_integer(value) and 0 <= value < columns):
                    self.refused(family, size, value, 0)
                if not (is_plain_integer(value) and 0 <= value < width):
                    self.refused(family, size, 0, value)
                    self.refused(family, size, value, value)

    def test_just_behind_the_last_ones(self):
        for family in random_families(61, 40) + some_families():
            width = family.body.frame.width
            for size in (3, 10 ** 50):
                columns = family.length(size)
                self.assertIn(is_in(family, size, columns - 1, width - 1), (True, False))
                self.assertIn(is_in(family, size, 0, 0), (True, False))
                for column, row in ((columns, 0), (0, width), (columns, width), (-1, 0), (0, -1), (-columns, 0),
                                    (columns - 1, -1), (columns + 10 ** 40, 0), (True, 0), (0, False)):
                    self.refused(family, size, column, row)


class PartingTest(unittest.TestCase):

    def test_by_hand(self):
        # The head is won just if the body lets the spark pass.
        for body, other, size in ((ONE, TWO, 1), (ONE, NEVER, 1), (NEVER, SPARK, 1), (TWO, NEVER, None),
                                  (ONE, ONE, None), (ONE, SPARK, None), (ONE * 2, ONE, None), (TWO * 2, NEVER, None),
                                  (TWO * 2, TWO * 3, None), (ONE + TWO, ONE, 1)):
            one, two = Family(body, head=ONE, tail=SPARK), Family(other, head=ONE, tail=SPARK)
            self.assertEqual((parting(one, two), parting(two, one)), (size, size))
            self.assertEqual(repr(parting(one, two)), repr(size))

    def test_heads_and_tails_may_be_unlike(self):
        self.assertEqual(parting(Family(ONE, head=SPARK), Family(ONE, head=ONE)), 0)
        self.assertEqual(parting(Family(ONE, tail=SPARK), Family(ONE, tail=ONE)), 0)
        self.assertEqual(parting(Family(SPARK, tail=ONE), Family(SPARK, tail=SPARK)), 0)
        self.assertIsNone(parting(Family(ONE, head=NEVER), Family(TWO, head=TWO)))

    def test_without_head_and_tail_nothing_parts(self):
        for closed in (False, True):
            self.assertIsNone(parting(Family(SPARK, closed=closed), Family(NEVER, closed=closed)))

    def test_only_sizes_with_both_webs(self):
        # With one body, or two, the shorter one of these rings is no web yet.
        one = Family(SPARK, tail=ONE, closed=True)
        self.assertEqual(parting(one, Family(NEVER * 3, tail=ONE, closed=True)), 2)
        self.assertEqual(parting(Family(NEVER * 3, tail=ONE, closed=True), one), 2)
        self.assertEqual(parting(Family(SPARK * 2, tail=ONE, closed=True), Family(NEVER * 3, tail=ONE, closed=True)), 1)
        self.assertEqual(parting(Family(SPARK, tail=ONE), Family(NEVER, tail=ONE)), 1)

    def test_late_sizes(self):
        frame = Frame(3, inner=[(0, 1), (1, 2)], outer=[(0, 0), (0, 1), (1, 1), (1, 2), (2, 0)])
        head, one, other = [Stretch(frame, [column]) for column in (
            ((2, True), (1, False), (2, False)), ((1, False), (1, False), (3, False)),
            ((3, False), (3, False), (1, False)))]
        families = [Family(body, head=head, closed=True) for body in (one, other)]
        self.assertEqual((parting(*families), parting(*families[::-1])), (4, 4))
        frame = Frame(3, outer=[(0, 1), (0, 2), (1, 0), (2, 0)])
        head, one, other, tail = [Stretch(frame, [column]) for column in (
            ((1, False), (2, True), (2, False)), ((1, False), (1, False), (2, False)),
            ((1, False), (2, False), (2, False)), ((2, False), (2, False), (1, False)))]
        self.assertEqual(parting(Family(one, head=head, tail=tail), Family(other, head=head, tail=tail)), 3)

    def test_one_family_settles_later_than_the_other_one(self):
        for late, head, other, tail, closed, size in (
                (LATE[6], [], ((1, False), (1, False), (3, False)), [((9, True), (2, True), (2, False))], True, 7),
                (LATE[2], [((2, False), (9, True), (1, True))], ((9, True), (2, False), (9, False)),
                 [((9, True), (1, False), (3, True))], False, 6),
                (LATE[6], [((1, False), (1, True), (2, True))], ((9, True), (9, False), (9, False)),
                 [((3, True), (9, False), (2, True))], False, 5)):
            head, other, tail = [Stretch(late.frame, columns) for columns in (head, [other], tail)]
            families = [Family(body, head=head, tail=tail, closed=closed) for body in (late, other)]
            self.assertEqual((parting(*families), parting(*families[::-1])), (size, size))
            self.assertEqual(plain_parting(*families), size)

    def test_sizes_of_one_kind_only(self):
        # The tail is won by one row alone, at which the spark comes in at each third size.
        tail = Stretch(WHEEL, [((1, False), (9, False), (9, False))])
        never = Stretch(WHEEL, [((9, False),) * 3])
        for row, size in ((0, 2), (1, 3), (2, 1)):
            head = Stretch(WHEEL, [tuple((9, other == row) for other in range(3))])
            for body in (never, never * 2):
                families = [Family(WHEELING, head=head, tail=tail), Family(body, head=head, tail=tail)]
                self.assertEqual((parting(*families), parting(*families[::-1])), (size, size))

    def test_against_the_webs(self):
        chance = random.Random(62)
        seen = {}
        for _ in range(200):
            frame = random_frame(chance)
            one = random_family(chance, frame)
            other = Family(random_stretch(chance, frame, 1, 2, 0.05), closed=one.closed,
                           head=self.changed(chance, one.head), tail=self.changed(chance, one.tail))
            before = shape_of_family(one), shape_of_family(other)
            told = parting(one=one, other=other)
            self.assertEqual(repr(told), repr(plain_parting(one, other)))
            self.assertEqual(parting(other, one), told)
            self.assertEqual((shape_of_family(one), shape_of_family(other)), before)
            seen[told] = True
        self.assertTrue({None, 0, 1, 2} <= set(seen))

    def changed(self, chance, stretch):
        """The stretch, or another one of as many columns."""
        if chance.random() < 0.7:
            return stretch
        return random_stretch(chance, stretch.frame, len(stretch), len(stretch), 0.4)

    def test_other_shapes(self):
        one = Family(ONE, head=SPARK, tail=TWO)
        others = [Family(ONE, head=SPARK, tail=TWO, closed=True), Family(ONE, head=SPARK), Family(ONE, tail=TWO),
                  Family(ONE, head=SPARK * 2, tail=TWO), Family(ONE, head=SPARK, tail=TWO * 2), Family(ONE * 3),
                  Family(ONE, head=SPARK + TWO)]
        alone = Frame(1)
        others.append(Family(Stretch(alone, [((1, False),)]), head=Stretch(alone, [((0, True),)]),
                             tail=Stretch(alone, [((2, False),)])))
        others.append(Family(TURNING, head=LOWER, tail=LOWER))
        for other, turned in itertools.product(others, (False, True)):
            with self.assertRaises(OtherShape):
                parting(*((other, one) if turned else (one, other)))

    def test_frames_that_are_equal(self):
        again = Frame(2, outer=[(1, 0), (0, 1)])
        self.assertEqual(CROSSED, again)
        self.assertIsNone(parting(Family(TURNING, head=LOWER), Family(Stretch(again, TURNING.columns), head=LOWER)))


if __name__ == "__main__":
    unittest.main()
