"""Point 23: trips."""

import random
import unittest

from sparkrows.errors import BadPrices, ClosedWeb
from sparkrows.powers import Family
from sparkrows.rates import behind_body, fronts_of, least, needs, rate
from sparkrows.trips import is_trip, trip
from tests.families import NEVER, ONE, SPARK, TWO
from tests.helpers import GREAT, is_plain_integer, odd_values
from tests.priced import no_fronts, no_prices_for, priced_families, shape_of_priced
from tests.test_rates import FREE, FREE_PRICES, FULL, HALF, LOST, LOST_PRICES, TWOS, TWOS_PRICES, some_courses

FIRST = (((), True), ((), True))
STARTS_NOT = (((), False), ((), False))


def trip_by_the_words(course, amount, bodies, walk, start, end):
    """Whether a list of a course's fronts, with two places in it, is a trip."""
    if not walk or walk[0] not in course.starts or course.finishes[walk[-1]] is None:
        return False
    costs = [course.steps[front].get(behind) for front, behind in zip(walk, walk[1:])]
    if None in costs or not 0 <= start < end < len(walk) or walk[start] != walk[end]:
        return False
    return bodies * sum(costs[start:end]) == amount * (end - start)


class TripTest(unittest.TestCase):

    def test_by_hand(self):
        fronts, start, end = trip(TWOS, TWOS_PRICES)
        self.assertEqual(fronts[0], FIRST)
        self.assertEqual({*fronts[start:end]}, {FULL, HALF})
        self.assertEqual((end - start) % 2, 0)
        self.assertIs(is_trip(TWOS, TWOS_PRICES, 1, 2, [FIRST, FULL, HALF, FULL], 1, 3), True)
        self.assertIs(is_trip(FREE, FREE_PRICES, 0, 1, [FIRST, FULL, FULL], 1, 2), True)

    def test_what_is_told_is_one(self):
        found = 0
        for family, prices in priced_families(121, 150):
            before = shape_of_priced(family, prices)
            mean, told = rate(family, prices), trip(family, prices)
            self.assertIs(told is None, mean is None)
            if mean is not None:
                found += 1
                self.assertEqual([type(told), type(told[0]), type(told[1]), type(told[2])], [tuple, list, int, int])
                self.assertIs(is_trip(family, prices, *mean, *told), True)
                self.assertIs(is_trip(family, prices, 2 * mean[0], 2 * mean[1], *told), True)
                self.assertIs(is_trip(family, prices, 7 * mean[0], 7 * mean[1], *told), True)
            self.assertEqual(shape_of_priced(family, prices), before)
        self.assertGreater(found, 80)

    def test_it_is_one_by_the_words(self):
        found = 0
        for family, prices, course in some_courses(122, 200):
            told = trip(family, prices)
            if told is not None:
                found += 1
                self.assertTrue(trip_by_the_words(course, *rate(family, prices), *told))
        self.assertGreater(found, 60)

    def test_least_sums_along_it(self):
        # At each size to which the ring leads, some lot has the sum of the steps, and those of the head and the tail.
        found = 0
        for family, prices in priced_families(123, 60):
            told = trip(family, prices)
            if told is None:
                continue
            fronts, start, end = told
            costs = [behind_body(family, prices, front)[behind] for front, behind in zip(fronts, fronts[1:])]
            ends = sum([price or 0 for column in prices[0] for price in column])
            ends += needs(family, prices, 1)[0][fronts[-1]]
            for times in (1, 2, 3):
                line = costs[:start] + costs[start:end] * times + costs[end:]
                if len(line) <= 60:
                    found += 1
                    self.assertLessEqual(least(family, prices, len(line)), sum(line) + ends)
        self.assertGreater(found, 60)

    def test_no_ring(self):
        self.assertIsNone(trip(LOST, LOST_PRICES))
        self.assertIsNone(trip(Family(TWO), ([], [(None,)], [])))
        self.assertIsNone(trip(family=Family(TWO, tail=NEVER), prices=([], [(1,)], [(None,)])))

    def test_it_is_told_anew(self):
        before = trip(TWOS, TWOS_PRICES)
        trip(family=TWOS, prices=TWOS_PRICES)[0].clear()
        self.assertEqual(trip(TWOS, TWOS_PRICES), before)


class IsTripTest(unittest.TestCase):

    def test_by_hand(self):
        for walk, start, end, expected in (
                ([FIRST, FULL, HALF, FULL], 1, 3, True), ([FIRST, FULL, HALF, FULL, HALF, FULL], 1, 3, True),
                # Round twice, and from another place of the ring on.
                ([FIRST, FULL, HALF, FULL, HALF, FULL], 1, 5, True),
                ([FIRST, FULL, HALF, FULL, HALF, FULL], 2, 4, True),
                ([FIRST, FULL, HALF, FULL, HALF, FULL], 3, 5, True),
                # Another front stands there, or the same place.
                ([FIRST, FULL, HALF, FULL, HALF, FULL], 1, 4, False),
                ([FIRST, FULL, HALF, FULL], 1, 1, False), ([FIRST, FULL, HALF, FULL], 3, 1, False),
                ([FIRST, FULL, HALF, FULL], 1, 4, False), ([FIRST, FULL, HALF, FULL], -3, 3, False),
                ([FIRST, FULL, HALF, FULL], -3, -1, False), ([FIRST, FULL, HALF, FULL], 1, -1, False),
                # The last one cannot be finished; the first one is not behind the head; no step.
                ([FIRST, FULL, HALF, FULL, HALF], 1, 3, False), ([FULL, HALF, FULL], 0, 2, False),
                ([FIRST, HALF, FULL, HALF, FULL], 1, 3, False), ([FIRST, FULL, HALF, HALF, FULL], 1, 4, False),
                # A ring with a greater mean.
                ([FIRST, FULL, FULL], 1, 2, False), ([FIRST, FULL, FULL, HALF, FULL], 1, 4, False),
                ([FIRST], 0, 0, False), ([], 0, 0, False), ([FIRST, FULL], 0, 1, False)):
            self.assertIs(is_trip(TWOS, TWOS_PRICES, 1, 2, walk, start, end), expected)
        self.assertIs(is_trip(TWOS, TWOS_PRICES, 1, 1, [FIRST, FULL, FULL], 1, 2), True)
        self.assertIs(is_trip(TWOS, TWOS_PRICES, 2, 3, [FIRST, FULL, FULL, HALF, FULL], 1, 4), True)
        self.assertIs(is_trip(family=TWOS, prices=TWOS_PRICES, amount=1, bodies=2, walk=[FIRST, FULL, HALF, FULL],
                              start=1, end=3), True)

    def test_a_ring_that_is_not_all_of_it(self):
        # Over a front that cannot be finished, and that leads nowhere else, no walk ends well.
        self.assertIs(is_trip(TWOS, TWOS_PRICES, 0, 1, [FIRST, STARTS_NOT, STARTS_NOT], 1, 2), False)
        family, prices = Family(ONE, head=SPARK), ([(None,)], [(2,)], [])
        self.assertIs(is_trip(family, prices, 0, 1, [FULL, FULL], 0, 1), True)
        self.assertIs(is_trip(family, prices, 0, 1, [FIRST, FULL, FULL], 1, 2), False)

    def test_amounts_and_bodies_changed(self):
        for family, prices in priced_families(124, 100):
            told, mean = trip(family, prices), rate(family, prices)
            if told is None:
                continue
            amount, bodies = mean
            for other in ((amount + 1, bodies), (amount - 1, bodies), (-amount - 1, bodies), (GREAT, bodies),
                          (amount, bodies + 1), (amount, GREAT), (amount + bodies, bodies), (bodies, amount)):
                expected = other[1] >= 1 and other[0] * bodies == other[1] * amount
                self.assertIs(is_trip(family, prices, *other, *told), expected)
            for bad in (0, -1, -bodies, -GREAT):
                self.assertIs(is_trip(family, prices, amount, bad, *told), False)
                self.assertIs(is_trip(family, prices, -amount, bad, *told), False)

    def test_one_thing_exchanged(self):
        seen = [0, 0]
        chance = random.Random(125)
        for family, prices, course in some_courses(126, 150):
            told, mean = trip(family, prices), rate(family, prices)
            if told is None:
                continue
            walk, start, end = told
            fronts = fronts_of(family, prices)
            tries = [(walk[:place] + [front] + walk[place + 1:], start, end)
                     for place in range(len(walk)) for front in fronts]
            tries += [(walk[:place] + [front] + walk[place:], start, end)
                      for place in range(len(walk)) for front in chance.sample(fronts, min(2, len(fronts)))]
            tries += [(walk[:place] + walk[place + 1:], start, end) for place in range(len(walk))]
            tries += [(walk, first, last) for first in range(-2, len(walk) + 1) for last in range(-2, len(walk) + 2)]
            turn = walk[start:end]
            tries += [(walk[:start] + turn * times + walk[end:], start, start + many * len(turn))
                      for times in (1, 2, 3) for many in (1, 2, 3)]
            for some in tries:
                expected = trip_by_the_words(course, *mean, *some)
                self.assertIs(is_trip(family, prices, *mean, *some), expected)
                seen[expected] += 1
        self.assertGreater(min(seen), 300)

    def test_round_twice(self):
        for family, prices in priced_families(127, 60):
            told, mean = trip(family, prices), rate(family, prices)
            if told is not None:
                walk, start, end = told
                twice = walk[:end] + walk[start:end] + walk[end:]
                length = end - start
                for first, last in ((start, end), (start, end + length), (end, end + length)):
                    self.assertIs(is_trip(family, prices, *mean, twice, first, last), True)

    def test_values_of_other_kinds(self):
        walk = [FIRST, FULL, HALF, FULL]
        for wrong in odd_values():
            self.assertIs(is_trip(TWOS, TWOS_PRICES, 1, 2, wrong, 1, 3), False)
            self.assertIs(is_trip(TWOS, TWOS_PRICES, 1, 2, wrong, wrong, wrong), False)
            for place in range(4):
                exchanged = walk[:place] + [wrong] + walk[place + 1:]
                self.assertIs(is_trip(TWOS, TWOS_PRICES, 1, 2, exchanged, 1, 3), False)
            if not is_plain_integer(wrong):
                self.assertIs(is_trip(TWOS, TWOS_PRICES, wrong, 2, walk, 1, 3), False)
                self.assertIs(is_trip(TWOS, TWOS_PRICES, 1, wrong, walk, 1, 3), False)
            if not is_plain_integer(wrong) or wrong != 1:
                self.assertIs(is_trip(TWOS, TWOS_PRICES, 1, 2, walk, wrong, 3), False)
            if not is_plain_integer(wrong) or wrong != 3:
                self.assertIs(is_trip(TWOS, TWOS_PRICES, 1, 2, walk, 1, wrong), False)
        self.assertIs(is_trip(TWOS, TWOS_PRICES, 1, 2, tuple(walk), 1, 3), False)
        # True and False are no places, no amount and no number of bodies.
        self.assertIs(is_trip(FREE, FREE_PRICES, 0, 1, [FIRST, FULL, FULL], 1, 2), True)
        for wrong in ((False, 1, 1, 2), (0, True, 1, 2), (0, 1, True, 2)):
            self.assertIs(is_trip(FREE, FREE_PRICES, wrong[0], wrong[1], [FIRST, FULL, FULL], *wrong[2:]), False)
        family, prices = Family(ONE, head=SPARK), ([(None,)], [(2,)], [])
        self.assertIs(is_trip(family, prices, 0, 1, [FULL, FULL], False, True), False)

    def test_fronts_of_other_kinds(self):
        walk = [FIRST, FULL, HALF, FULL]
        for place, front in enumerate(walk):
            for wrong in no_fronts(front):
                exchanged = walk[:place] + [wrong] + walk[place + 1:]
                self.assertIs(is_trip(TWOS, TWOS_PRICES, 1, 2, exchanged, 1, 3), False)


class ErrorsTest(unittest.TestCase):

    def asked(self, family, prices):
        return [lambda: trip(family, prices), lambda: is_trip(family, prices, 1, 2, [FIRST], 0, 1),
                lambda: is_trip(family, prices, None, None, None, None, None)]

    def test_closed_families_come_first(self):
        for prices in (TWOS_PRICES, None, [], 7):
            for ask in self.asked(Family(TWO, closed=True), prices):
                with self.assertRaises(ClosedWeb):
                    ask()

    def test_bad_prices(self):
        for value in odd_values() + [([], some, []) for some in no_prices_for([(1,)], 1)]:
            for ask in self.asked(TWOS, value):
                with self.assertRaises(BadPrices) as caught:
                    ask()
                self.assertIs(caught.exception.value, value)


if __name__ == "__main__":
    unittest.main()
