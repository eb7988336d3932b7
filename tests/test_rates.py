"""Points 22, 23 and 24: prices for a family, fronts, steps, needs, least sums, the rate, heights."""

import itertools
import math
import random
import unittest
from fractions import Fraction

from sparkrows.errors import BadPrices, BadSize, ClosedWeb
from sparkrows.fewest import fewest
from sparkrows.frames import Frame, Stretch
from sparkrows.fronts import front_of
from sparkrows.powers import Family
from sparkrows.rates import (behind_body, fronts_of, heights, is_family_prices, is_heights, least, needs, rate)
from tests.families import NEVER, ONE, PATH, SPARK, TWO
from tests.helpers import GREAT, is_plain_integer, ladder, odd_values
from tests.priced import (PlainCourse, no_fronts, no_prices_for, plain_fewest, priced_families, shape_of_priced,
                          started, subsets, total, wins_all)

TWOS, TWOS_PRICES = Family(TWO), ([], [(1,)], [])
FULL, HALF = (((0,), True), ((0,), True)), (((), False), ((0,), True))
# All its seats start, so nothing is ever paid.
FREE, FREE_PRICES = Family(SPARK), ([], [(5,)], [])
# Bodies win nobody, and cannot be helped: there is no ring.
LOST, LOST_PRICES = Family(NEVER, head=SPARK, tail=ONE), ([(1,)], [(None,)], [(1,)])
NO_SIZES = [value for value in odd_values() if not (is_plain_integer(value) and 0 <= value <= 60)] + [61, 60.0, 10 ** 9]


def best_of_rings(course):
    """The least mean of all rings, None if there is none."""
    means = [Fraction(cost, many) for cost, many in course.rings()]
    if not means:
        return None
    return min(means).numerator, min(means).denominator


def some_courses(seed, many, most=12, **bounds):
    """Families with prices and few fronts, and their fronts by plain walks."""
    found = []
    for family, prices in priced_families(seed, many, **bounds):
        if family.body.frame.width * max(len(family.body), len(family.head), len(family.tail)) <= 4:
            if len(fronts_of(family, prices)) <= most:
                found.append((family, prices, PlainCourse(family, prices)))
    return found


def heights_by_the_words(course, amount, bodies, value):
    """Whether a dict from some of a course's fronts to integers and None are heights."""
    if any(front not in value for front in course.starts):
        return False
    for front, height in value.items():
        for behind, cost in course.steps[front].items():
            if behind not in value or (height is None and value[behind] is not None):
                return False
            if value[behind] is not None and value[behind] > height + bodies * cost - amount:
                return False
        if height is None and course.finishes[front] is not None:
            return False
    return True


class FamilyPricesTest(unittest.TestCase):

    def families(self):
        for width in (1, 2, 3):
            frame = ladder(width)
            one, two = [Stretch(frame, [((1, False),) * width] * many) for many in (1, 2)]
            for head, tail in itertools.product((None, one, two), repeat=2):
                for closed in (False, True):
                    yield Family(one, head=head, tail=tail, closed=closed)
                    yield Family(two, head=head, tail=tail, closed=closed)

    def prices(self, family):
        width = family.body.frame.width
        return tuple([(price,) * width] * len(part)
                     for part, price in ((family.head, 0), (family.body, None), (family.tail, 1000)))

    def test_right_ones(self):
        for family in self.families():
            self.assertIs(is_family_prices(family, self.prices(family)), True)
            self.assertIs(is_family_prices(family=family, value=self.prices(family)), True)

    def test_one_thing_exchanged(self):
        for family in self.families():
            good = self.prices(family)
            before = shape_of_priced(family, good)
            self.assertIs(is_family_prices(family, list(good)), False)
            self.assertIs(is_family_prices(family, good + ([],)), False)
            for place in range(3):
                self.assertIs(is_family_prices(family, good[:place] + good[place + 1:]), False)
                for wrong in no_prices_for(good[place], family.body.frame.width):
                    self.assertIs(is_family_prices(family, good[:place] + (wrong,) + good[place + 1:]), False)
            self.assertEqual(shape_of_priced(family, good), before)

    def test_parts_exchanged(self):
        family = Family(TWO, head=TWO * 2, tail=TWO * 3)
        parts = [[(1,)] * many for many in (2, 1, 3)]
        for turned in itertools.permutations(parts):
            self.assertIs(is_family_prices(family, tuple(turned)), list(turned) == parts)

    def test_values_of_any_kind(self):
        for family in self.families():
            for value in odd_values():
                self.assertIs(is_family_prices(family, value), False)
                if value not in ([], [(0, 0, 0)]):
                    self.assertIs(is_family_prices(family, (value,) * 3), False)


class FrontsTest(unittest.TestCase):

    def test_by_hand(self):
        self.assertEqual(len(fronts_of(TWOS, TWOS_PRICES)), 6)
        self.assertEqual(fronts_of(family=FREE, prices=FREE_PRICES), [(((), True),) * 2, FULL])
        self.assertEqual(fronts_of(TWOS, ([], [(None,)], [])), [(((), False),) * 2, (((), True),) * 2])

    def test_against_walks(self):
        for family, prices, course in some_courses(101, 160):
            before = shape_of_priced(family, prices)
            told = fronts_of(family, prices)
            self.assertIs(type(told), list)
            self.assertEqual(repr(told), repr(sorted(course.steps)))
            self.assertEqual(shape_of_priced(family, prices), before)

    def test_they_ascend(self):
        for family, prices in priced_families(102, 60):
            told = fronts_of(family, prices)
            self.assertEqual(told, sorted(set(told)))
            self.assertIn(front_of(family.head), told)
            self.assertIn(front_of(family.head + family.body * 3), told)

    def test_they_are_told_anew(self):
        before = fronts_of(TWOS, TWOS_PRICES)
        fronts_of(TWOS, TWOS_PRICES).clear()
        self.assertEqual(fronts_of(TWOS, TWOS_PRICES), before)


class StepsTest(unittest.TestCase):

    def test_by_hand(self):
        self.assertEqual(behind_body(TWOS, TWOS_PRICES, HALF), {FULL: 1, (((), False),) * 2: 0})
        self.assertEqual(behind_body(family=TWOS, prices=TWOS_PRICES, front=FULL), {FULL: 1, HALF: 0})
        self.assertEqual(behind_body(FREE, FREE_PRICES, FULL), {FULL: 0})

    def test_against_all_choices(self):
        seen = {1: 0, 2: 0, 3: 0}
        for family, prices, course in some_courses(103, 200):
            before = shape_of_priced(family, prices)
            for front in course.steps:
                told = behind_body(family, prices, front)
                self.assertIs(type(told), dict)
                self.assertEqual(repr(sorted(told.items())), repr(sorted(course.steps[front].items())))
            self.assertEqual(shape_of_priced(family, prices), before)
            seen[family.body.frame.width] += 1
        self.assertGreater(min(seen.values()), 10)

    def test_they_are_told_anew(self):
        behind_body(TWOS, TWOS_PRICES, FULL).clear()
        self.assertEqual(behind_body(TWOS, TWOS_PRICES, FULL), {FULL: 1, HALF: 0})


class NeedsTest(unittest.TestCase):

    def test_by_hand(self):
        told = needs(TWOS, TWOS_PRICES, 6)
        self.assertEqual([line[FULL] for line in told], [0, 1, 1, 2, 2, 3])
        self.assertEqual([line[HALF] for line in told], [None, 1, 2, 2, 3, 3])
        self.assertEqual(needs(family=FREE, prices=FREE_PRICES, many=2), [{(((), True),) * 2: 0, FULL: 0}] * 2)
        # Behind a seat that is never in, nobody can win what lies ahead.
        told = needs(LOST, LOST_PRICES, 3)
        self.assertEqual([line[FULL] for line in told], [0, None, None])

    def test_against_walks(self):
        for family, prices, course in some_courses(104, 160):
            before = shape_of_priced(family, prices)
            told = needs(family, prices, 10)
            self.assertEqual([type(line) for line in told], [dict] * 10)
            self.assertEqual(told, course.needs(10))
            self.assertEqual(needs(family, prices, 1), course.needs(1))
            self.assertEqual(shape_of_priced(family, prices), before)

    def test_against_all_lots(self):
        # Each front's columns, some bodies, and the tail: what all lots of the bodies and the tail can do.
        checked = 0
        for family, prices, course in some_courses(105, 120, most=8):
            frame = family.body.frame
            for many in range(3):
                told = needs(family, prices, 3)[many]
                columns = family.body.columns * many + family.tail.columns
                costs = prices[1] * many + prices[2]
                seats = [(place, row) for place, column in enumerate(columns) for row in range(frame.width)
                         if not column[row][1] and costs[place][row] is not None]
                if len(seats) > 6:
                    continue
                for front, ahead in course.columns.items():
                    best = min([total(costs, some) for some in subsets(seats)
                                if wins_all(frame, ahead + started(columns, some))], default=None)
                    self.assertEqual(told[front], best)
                    checked += 1
        self.assertGreater(checked, 300)

    def test_sixty(self):
        told = needs(TWOS, TWOS_PRICES, 60)
        self.assertEqual(len(told), 60)
        self.assertEqual(told[59][FULL], 30)

    def test_they_are_told_anew(self):
        before = needs(TWOS, TWOS_PRICES, 4)
        for line in needs(TWOS, TWOS_PRICES, 4):
            line.clear()
        needs(TWOS, TWOS_PRICES, 4).clear()
        self.assertEqual(needs(TWOS, TWOS_PRICES, 4), before)


class LeastTest(unittest.TestCase):

    def test_by_hand(self):
        self.assertEqual([least(TWOS, TWOS_PRICES, size) for size in range(8)], [0, 1, 2, 2, 3, 3, 4, 4])
        self.assertEqual(least(family=TWOS, prices=TWOS_PRICES, size=60), 31)
        self.assertEqual([least(LOST, LOST_PRICES, size) for size in range(3)], [0, None, None])
        self.assertEqual(least(FREE, FREE_PRICES, 0), 0)
        self.assertIsNone(least(Family(TWO, tail=NEVER), ([], [(1,)], [(None,)]), 0))

    def test_against_all_lots(self):
        seen = [0, 0]
        for family, prices in priced_families(106, 200):
            before = shape_of_priced(family, prices)
            for size in range(4):
                columns = family.head.columns + family.body.columns * size + family.tail.columns
                costs = prices[0] + prices[1] * size + prices[2]
                if len(columns) * family.body.frame.width <= 7:
                    expected = plain_fewest(family.body.frame, columns, costs)
                    self.assertEqual(least(family, prices, size), expected)
                    seen[expected is None] += 1
            self.assertEqual(shape_of_priced(family, prices), before)
        self.assertGreater(min(seen), 40)

    def test_against_the_fewest_starters(self):
        for family, prices in priced_families(107, 60):
            for size in (1, 5, 20):
                told = fewest(family.at(size), prices[0] + prices[1] * size + prices[2])
                self.assertEqual(least(family, prices, size), None if told is None else told[0])

    def test_no_size(self):
        for value in NO_SIZES:
            with self.assertRaises(BadSize) as caught:
                least(TWOS, TWOS_PRICES, value)
            self.assertIs(caught.exception.value, value)


class RateTest(unittest.TestCase):

    def test_by_hand(self):
        self.assertEqual(rate(TWOS, TWOS_PRICES), (1, 2))
        self.assertEqual(rate(TWOS, ([], [(6,)], [])), (3, 1))
        self.assertEqual(rate(family=FREE, prices=FREE_PRICES), (0, 1))
        self.assertIsNone(rate(LOST, LOST_PRICES))
        # Two seats of a body, one of them at 3: one in two of them starts, or the one that costs less in each.
        self.assertEqual(rate(Family(TWO * 2), ([], [(3,), (1,)], [])), (1, 1))
        # Three bodies, of which each second seat starts.
        self.assertEqual(rate(Family(TWO * 3), ([], [(2,)] * 3, [])), (3, 1))

    def test_against_all_rings(self):
        seen = {"none": 0, "whole": 0, "other": 0}
        for family, prices, course in some_courses(108, 300, most=10, starters=0.05):
            before = shape_of_priced(family, prices)
            expected = best_of_rings(course)
            told = rate(family, prices)
            self.assertEqual(repr(told), repr(expected))
            if told is not None:
                self.assertEqual(math.gcd(*told), 1)
            seen["none" if told is None else "whole" if told[1] == 1 else "other"] += 1
            self.assertEqual(shape_of_priced(family, prices), before)
        self.assertGreater(min(seen.values()), 5)

    def test_least_sums_go_by_it(self):
        for family, prices in priced_families(109, 60):
            told = rate(family, prices)
            sums = [least(family, prices, size) for size in (20, 40, 60)]
            if told is None:
                self.assertEqual(sums, [None] * 3)
            elif None not in sums:
                amount, bodies = told
                for less, more in ((0, 1), (1, 2)):
                    self.assertLessEqual(abs(bodies * (sums[more] - sums[less]) - 20 * amount), 20 * 3 * bodies * 2)


class HeightsTest(unittest.TestCase):

    def test_what_is_told_is_held(self):
        found = 0
        for family, prices in priced_families(110, 120):
            before = shape_of_priced(family, prices)
            mean, told = rate(family, prices), heights(family, prices)
            self.assertIs(told is None, mean is None)
            if mean is not None:
                found += 1
                self.assertIs(type(told), dict)
                self.assertIs(is_heights(family, prices, *mean, told), True)
                for height in told.values():
                    self.assertTrue(height is None or is_plain_integer(height))
                doubled = {front: None if height is None else 2 * height for front, height in told.items()}
                self.assertIs(is_heights(family, prices, 2 * mean[0], 2 * mean[1], doubled), True)
            self.assertEqual(shape_of_priced(family, prices), before)
        self.assertGreater(found, 60)

    def test_by_the_words(self):
        seen = [0, 0]
        for family, prices, course in some_courses(111, 200):
            mean = rate(family, prices)
            if mean is None:
                continue
            told = heights(family, prices)
            for front in told:
                for value in (None, 0, -1, 1, GREAT, -GREAT, (told[front] or 0) + 1, (told[front] or 0) - 1):
                    more = {**told, front: value}
                    expected = heights_by_the_words(course, *mean, more)
                    self.assertIs(is_heights(family, prices, *mean, more), expected)
                    seen[expected] += 1
                less = {other: told[other] for other in told if other != front}
                self.assertIs(is_heights(family, prices, *mean, less), heights_by_the_words(course, *mean, less))
            turned = {front: told[front] for front in list(told)[::-1]}
            self.assertIs(is_heights(family, prices, *mean, turned), True)
        self.assertGreater(min(seen), 100)

    def test_they_show_the_rate_from_below(self):
        for family, prices, course in some_courses(112, 120):
            mean = rate(family, prices)
            if mean is None:
                continue
            amount, bodies = mean
            told = heights(family, prices)
            self.assertIs(is_heights(family, prices, amount + 1, bodies, told), False)
            self.assertIs(is_heights(family, prices, amount - 1, bodies, told), True)
            self.assertIs(is_heights(family, prices, -GREAT, bodies, told), True)
            # No heights show a greater rate: round a ring they would rise.
            for front in told:
                self.assertIs(is_heights(family, prices, amount + 1, bodies,
                                         {**told, front: (told[front] or 0) - GREAT}), False)

    def test_no_ring(self):
        self.assertIsNone(heights(LOST, LOST_PRICES))
        fronts = fronts_of(LOST, LOST_PRICES)
        # The front behind the head can be finished; from it steps lead only to such as cannot.
        value = {front: 0 if front == FULL else None for front in fronts}
        for amount, bodies in ((1, 1), (GREAT, 1), (-3, 7)):
            self.assertIs(is_heights(LOST, LOST_PRICES, amount, bodies, value), True)
        self.assertIs(is_heights(LOST, LOST_PRICES, 1, 1, {front: None for front in fronts}), False)
        self.assertIs(is_heights(LOST, LOST_PRICES, 1, 1, {front: 0 for front in fronts}), False)
        self.assertIs(is_heights(LOST, LOST_PRICES, 0, 1, {front: 0 for front in fronts}), True)

    def test_fronts_that_do_not_come_about(self):
        told = heights(TWOS, TWOS_PRICES)
        other = (((), False), ((), True))
        self.assertNotIn(other, fronts_of(TWOS, TWOS_PRICES))
        self.assertEqual((told[HALF], told[FULL]), (-1, 0))
        # Behind it all are in, at a step of 1.
        for number, expected in ((0, True), (-1, True), (-2, False), (5, True), (GREAT, True), (-GREAT, False),
                                 (None, False)):
            self.assertIs(is_heights(TWOS, TWOS_PRICES, 1, 2, {**told, other: number}), expected)
        # Behind it stands half, too, at a step of 0.
        other = (((0,), False), ((0,), True))
        for number, expected in ((0, True), (-1, False), (1, True), (None, False)):
            self.assertIs(is_heights(TWOS, TWOS_PRICES, 1, 2, {**told, other: number}), expected)

    def test_values_of_other_kinds(self):
        told = heights(TWOS, TWOS_PRICES)
        for wrong in odd_values():
            self.assertIs(is_heights(TWOS, TWOS_PRICES, 1, 2, wrong), False)
            if wrong is not None and not is_plain_integer(wrong):
                for front in told:
                    self.assertIs(is_heights(TWOS, TWOS_PRICES, 1, 2, {**told, front: wrong}), False)
            if not is_plain_integer(wrong):
                self.assertIs(is_heights(TWOS, TWOS_PRICES, wrong, 2, told), False)
            if not is_plain_integer(wrong) or wrong < 1:
                self.assertIs(is_heights(TWOS, TWOS_PRICES, 1, wrong, told), False)
                self.assertIs(is_heights(TWOS, TWOS_PRICES, wrong, wrong, told), False)
            if not isinstance(wrong, (list, dict)) and not isinstance(wrong, tuple):
                self.assertIs(is_heights(TWOS, TWOS_PRICES, 1, 2, {**told, wrong: 0}), False)
        self.assertIs(is_heights(TWOS, TWOS_PRICES, 1, 2, list(told.items())), False)
        # With no body, or less than none, heights would not show anything.
        still = {front: 0 for front in fronts_of(FREE, FREE_PRICES)}
        for amount, bodies, expected in ((0, 1, True), (-3, 1, True), (0, 0, False), (-3, 0, False), (0, -1, False),
                                         (-GREAT, -GREAT, False), (0, GREAT, True), (0, True, False),
                                         (False, 1, False)):
            self.assertIs(is_heights(FREE, FREE_PRICES, amount, bodies, still), expected)
        self.assertIs(is_heights(family=TWOS, prices=TWOS_PRICES, amount=1, bodies=2, value=told), True)

    def test_fronts_of_other_kinds(self):
        told = heights(TWOS, TWOS_PRICES)
        for front in told:
            rest = {other: told[other] for other in told if other != front}
            for wrong in no_fronts(front):
                try:
                    exchanged = {**rest, wrong: told[front]}
                except TypeError:
                    continue
                self.assertIs(is_heights(TWOS, TWOS_PRICES, 1, 2, exchanged), False)
                if len({**told, wrong: None}) > len(told):
                    self.assertIs(is_heights(TWOS, TWOS_PRICES, 1, 2, {**told, wrong: None}), False)

    def test_they_are_told_anew(self):
        before = heights(TWOS, TWOS_PRICES)
        heights(family=TWOS, prices=TWOS_PRICES).clear()
        self.assertEqual(heights(TWOS, TWOS_PRICES), before)


class ErrorsTest(unittest.TestCase):

    def asked(self, family, prices):
        return [lambda: fronts_of(family, prices), lambda: behind_body(family, prices, FULL),
                lambda: needs(family, prices, 2), lambda: least(family, prices, 2), lambda: least(family, prices, None),
                lambda: rate(family, prices), lambda: heights(family, prices),
                lambda: is_heights(family, prices, 1, 1, {}), lambda: is_heights(family, prices, None, None, None)]

    def test_closed_families_come_first(self):
        for prices in (TWOS_PRICES, None, [], ([], [], []), 7):
            for ask in self.asked(Family(TWO, closed=True), prices):
                with self.assertRaises(ClosedWeb):
                    ask()

    def test_bad_prices(self):
        family = Family(TWO, head=SPARK, tail=ONE * 2)
        good = ([(1,)], [(None,)], [(0,), (1000,)])
        wrong = [good[:place] + (value,) + good[place + 1:] for place in range(3) for value in no_prices_for(good[place], 1)]
        for value in wrong + odd_values() + [list(good), good[:2], good + ([],)]:
            self.assertIs(is_family_prices(family, value), False)
            for ask in self.asked(family, value):
                with self.assertRaises(BadPrices) as caught:
                    ask()
                self.assertIs(caught.exception.value, value)

    def test_prices_ahead_of_the_size(self):
        with self.assertRaises(BadPrices):
            least(TWOS, ([], [(1001,)], []), -1)


class ManyFrontsTest(unittest.TestCase):

    def test_a_frame_with_many_fronts(self):
        # Over a hundred fronts, and what is told of them is held.
        frame = Frame(3, outer=[(0, 1), (0, 2), (1, 0), (1, 1), (2, 0), (2, 2)])
        family = Family(Stretch(frame, [((2, False), (2, False), (3, False))]))
        prices = ([], [(1, 2, 2)], [])
        self.assertGreater(len(fronts_of(family, prices)), 100)
        mean = rate(family, prices)
        self.assertIs(is_heights(family, prices, *mean, heights(family, prices)), True)

    def test_twenty_columns(self):
        chance = random.Random(113)
        for _ in range(3):
            frame = ladder(3)
            body = Stretch(frame, [tuple((chance.choice((1, 2, 3)), False) for _ in range(3)) for _ in range(20)])
            family, prices = Family(body), ([], [(1, 1, 1)] * 20, [])
            mean = rate(family, prices)
            self.assertIs(is_heights(family, prices, *mean, heights(family, prices)), True)
            told = fewest(family.at(1), prices[1])
            self.assertEqual(least(family, prices, 1), told[0])

    def test_the_frame_is_that_of_the_path(self):
        self.assertEqual(TWO.frame, PATH)


if __name__ == "__main__":
    unittest.main()
