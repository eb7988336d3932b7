"""Points 24 and 25: windows, forecasts, least sums at sizes of any greatness."""

import random
import unittest

from sparkrows.errors import BadPrices, BadSize, ClosedWeb, NoForecast
from sparkrows.forecasts import far_least, forecast, is_window
from sparkrows.frames import Frame, Stretch
from sparkrows.powers import Family
from sparkrows.rates import behind_body, fronts_of, least, needs, rate
from tests.families import NEVER, ONE, PATH, SPARK, TWO
from tests.helpers import GREAT, is_plain_integer, odd_values
from tests.priced import no_prices_for, priced_families, shape_of_priced
from tests.test_rates import FREE, FREE_PRICES, LOST, LOST_PRICES, TWOS, TWOS_PRICES

# A path on which the head lets the spark pass at the third size only, and so on: least sums that differ for long.
TURNS = Family(Stretch(PATH, [((2, False),)]), head=SPARK, tail=SPARK), ([(None,)], [(4,)], [(None,)])
SLOW = Family(Stretch(PATH, [((2, False),)] * 3), head=ONE, tail=TWO), ([(2,)], [(1,), (3,), (2,)], [(9,)])
NO_SIZES = [value for value in odd_values() if not (is_plain_integer(value) and value >= 0)]


class PlainWindows:
    """What the document asks of a window, by what rates tells of needs, steps and least sums."""

    def __init__(self, family, prices, many):
        self.needs = needs(family, prices, min(many, 60))
        self.fronts = fronts_of(family, prices)
        self.steps = {front: behind_body(family, prices, front) for front in self.fronts}
        self.least = [least(family, prices, size) for size in range(len(self.needs))]
        # The fronts behind the head with their least sums: a family whose body is behind the head as a tail tells them.
        self.starts = self.behind_head(family, prices)

    def behind_head(self, family, prices):
        if len(family.head) == 0:
            return {tuple([((), True)] * 2 ** family.body.frame.width): 0}
        return behind_body(Family(family.head), ([], prices[0], []), tuple([((), True)] * 2 ** family.body.frame.width))

    def rise(self, front, size, period):
        return self.needs[size + period][front] - self.needs[size][front]

    def front_leads(self, front, size, period, rise):
        """The second condition for one front with a need for one body more than size."""
        here = [behind for behind in self.steps[front] if self.needs[size][behind] is not None]
        if any(self.rise(behind, size, period) < rise for behind in here):
            return False
        return any(self.steps[front][behind] + self.needs[size][behind] == self.needs[size + 1][front]
                   and self.rise(behind, size, period) == rise for behind in here)

    def sum_leads(self, size, period):
        now, later = self.least[size], self.least[size + period]
        if now is None or later is None:
            return now is later
        here = [front for front in self.starts if self.needs[size][front] is not None]
        if any(self.rise(front, size, period) < later - now for front in here):
            return False
        return any(self.starts[front] + self.needs[size][front] == now
                   and self.rise(front, size, period) == later - now for front in here)

    def is_window(self, start, period):
        sizes = range(start, start + period)
        for size in sizes:
            if any((self.needs[size][f] is None) != (self.needs[size + period][f] is None) for f in self.fronts):
                return False
        for size in sizes:
            after = start if size + 1 == start + period else size + 1
            for front in self.fronts:
                if self.needs[size + 1][front] is not None:
                    if not self.front_leads(front, size, period, self.rise(front, after, period)):
                        return False
        return all(self.sum_leads(size, period) for size in sizes)

    def first(self, within):
        """The window that the document's forecast takes."""
        for period in range(1, within):
            for start in range(within):
                if start + 2 * period <= within and self.is_window(start, period):
                    return start, period
        return None

    def forecast(self, within):
        window = self.first(within)
        if window is None:
            return None
        start, period = window
        steps = [None if self.least[size] is None else self.least[size + period] - self.least[size]
                 for size in range(start, start + period)]
        return self.least[:start + period], period, steps


def told_apart_families():
    """Families behind whose heads some fronts rise by less than others: the least sum goes by the one first, then by
    the other, so that windows of the needs stand where the least sum is not yet told."""
    def made(inner, outer, head, body, tail, prices):
        frame = Frame(3, inner=inner, outer=outer)
        parts = [Stretch(frame, [tuple((abs(need), need < 0) for need in column) for column in columns])
                 for columns in (head, body, tail)]
        return Family(parts[1], head=parts[0], tail=parts[2]), prices

    return [
        made([(0, 2), (1, 2)], [(0, 1), (1, 0), (1, 2), (2, 0), (2, 2)], [(3, 3, 3)], [(3, 2, 3)],
             [(1, 1, -1), (1, 1, 1)], ([(11, 5, 8)], [(None, 1, None)], [(2, None, 6), (5, 6, 8)])),
        made([(0, 1), (0, 2)], [(0, 1), (0, 2), (1, 0), (1, 2)], [(2, 2, 1), (1, 3, -1)], [(3, 2, 2), (3, 2, 2)],
             [(2, 1, -2), (2, -1, -2)],
             ([(11, None, None), (5, 1, 5)], [(None, 0, None), (None, None, 1)], [(1, 9, None), (None, 4, 8)])),
        made([(0, 1), (1, 2)], [(1, 0), (1, 1), (2, 0)], [(2, 2, 1)], [(2, 2, 2)], [(2, -2, 2)],
             ([(4, 3, None)], [(None, None, 2)], [(None, None, 4)])),
        made([(0, 1), (0, 2), (1, 2)], [(0, 2), (1, 0), (1, 2), (2, 0), (2, 2)], [(2, 2, 3), (3, 3, 3), (3, 3, 2)],
             [(2, 3, 3), (3, 2, 2)], [(-2, 2, 2)],
             ([(2, 3, None), (4, 4, 2), (2, 4, 8)], [(None, 1, None), (None,) * 3], [(7, None, None)])),
        made([(0, 1), (0, 2)], [(0, 0), (1, 0), (1, 2), (2, 0), (2, 2)], [(1, 3, 2)], [(3, 2, 3)], [(-1, -2, 9)],
             ([(3, 8, 12)], [(None, 2, None)], [(None, 3, 6)])),
    ]


def slow_families():
    """Families whose needs go by a period greater than 1, or come to their period late."""
    crossed = Frame(2, outer=[(0, 1), (1, 0)])
    found = [(TWOS, TWOS_PRICES), TURNS, SLOW, (FREE, FREE_PRICES), (LOST, LOST_PRICES)]
    found += [(Family(Stretch(crossed, [((2, False), (2, False))])), ([], [prices], []))
              for prices in ((1, 1), (1, 2), (2, None), (None, 1), (0, 5))]
    found += [(Family(Stretch(crossed, [((1, False), (2, False))]), head=Stretch(crossed, [((1, True), (1, False))]),
                      tail=Stretch(crossed, [((2, False), (1, False))])), ([(None, 1)], [(3, 2)], [(1, None)]))]
    wheel = Frame(3, outer=[(0, 1), (1, 2), (2, 0)])
    found += [(Family(Stretch(wheel, [((2, False), (2, False), (1, False))])), ([], [prices], []))
              for prices in ((1, 2, 3), (1, None, 2), (None, None, 1))]
    found += [(Family(Stretch(wheel, [((1, False),) * 3]), head=Stretch(wheel, [((0, True), (9, False), (9, False))]),
                      tail=Stretch(wheel, [((1, False), (1, False), (1, False))])),
               ([(None, 5, None)], [(None, 1, None)], [(None,) * 3]))]
    return found + told_apart_families()


class WindowTest(unittest.TestCase):

    def test_by_hand(self):
        for start, period, expected in ((0, 1, False), (1, 1, False), (0, 2, False), (1, 2, True), (2, 2, True),
                                        (1, 3, False), (0, 4, False), (1, 4, True), (3, 4, True), (56, 2, True),
                                        (57, 2, False), (58, 1, False), (2, 29, False), (4, 28, True), (5, 28, False)):
            self.assertIs(is_window(TWOS, TWOS_PRICES, start, period), expected)
        self.assertIs(is_window(family=FREE, prices=FREE_PRICES, start=0, period=1), True)
        self.assertIs(is_window(FREE, FREE_PRICES, 1, 1), True)

    def test_by_the_words(self):
        seen = {True: 0, False: 0}
        for family, prices in priced_families(131, 100) + slow_families():
            before = shape_of_priced(family, prices)
            plain = PlainWindows(family, prices, 16)
            for period in range(1, 6):
                for start in range(16 - 2 * period):
                    expected = plain.is_window(start, period)
                    self.assertIs(is_window(family, prices, start, period), expected)
                    seen[expected] += 1
            self.assertEqual(shape_of_priced(family, prices), before)
        self.assertGreater(min(seen.values()), 200)

    def test_up_to_sixty_and_beyond(self):
        for family, prices in slow_families():
            plain = PlainWindows(family, prices, 60)
            for start, period in ((58, 1), (56, 2), (54, 3), (40, 10), (0, 30), (1, 29), (2, 29), (20, 20), (48, 6)):
                expected = start + 2 * period <= 60 and plain.is_window(start, period)
                self.assertIs(is_window(family, prices, start, period), expected)
            for start, period in ((59, 1), (57, 2), (1, 30), (0, 31), (60, 1), (61, 1), (GREAT, 1), (0, GREAT),
                                  (1, GREAT), (GREAT, GREAT), (10 ** 6, 10 ** 6)):
                self.assertIs(is_window(family, prices, start, period), False)

    def test_values_of_any_kind(self):
        self.assertIs(is_window(TWOS, TWOS_PRICES, 1, 2), True)
        self.assertIs(is_window(FREE, FREE_PRICES, 1, 1), True)
        for wrong in odd_values():
            if not is_plain_integer(wrong) or wrong < 0:
                self.assertIs(is_window(TWOS, TWOS_PRICES, wrong, 2), False)
                self.assertIs(is_window(FREE, FREE_PRICES, wrong, 1), False)
            if not is_plain_integer(wrong) or wrong < 1:
                self.assertIs(is_window(TWOS, TWOS_PRICES, 1, wrong), False)
                self.assertIs(is_window(FREE, FREE_PRICES, 1, wrong), False)
                self.assertIs(is_window(FREE, FREE_PRICES, wrong, wrong), False)

    def test_what_a_window_says(self):
        # From the start on all needs rise by the same with each period, and so does the least sum.
        for family, prices in priced_families(132, 40) + slow_families():
            told = forecast(family, prices)
            if told is None:
                continue
            period, start = told[1], len(told[0]) - told[1]
            lines = needs(family, prices, 60)
            for size in range(start, 60 - 2 * period):
                for front in lines[0]:
                    three = [lines[size + k * period][front] for k in range(3)]
                    if None in three:
                        self.assertEqual(three, [None] * 3)
                    else:
                        self.assertEqual(three[1] - three[0], three[2] - three[1])


class ForecastTest(unittest.TestCase):

    def test_by_hand(self):
        self.assertEqual(forecast(TWOS, TWOS_PRICES), ([0, 1, 2], 2, [1, 1]))
        self.assertEqual(forecast(family=TWOS, prices=TWOS_PRICES, within=5), ([0, 1, 2], 2, [1, 1]))
        self.assertIsNone(forecast(TWOS, TWOS_PRICES, within=4))
        self.assertEqual(forecast(FREE, FREE_PRICES), ([0], 1, [0]))
        self.assertEqual(forecast(LOST, LOST_PRICES, within=10), ([0, None], 1, [None]))

    def test_by_the_words(self):
        seen = {True: 0, False: 0}
        for family, prices in priced_families(133, 60) + slow_families():
            before = shape_of_priced(family, prices)
            plain = PlainWindows(family, prices, 24)
            for within in (2, 3, 4, 5, 6, 8, 24):
                told = forecast(family, prices, within=within)
                self.assertEqual(repr(told), repr(plain.forecast(within)))
                seen[told is None] += 1
            self.assertEqual(repr(forecast(family, prices)), repr(plain.forecast(24)))
            self.assertEqual(shape_of_priced(family, prices), before)
        self.assertGreater(min(seen.values()), 60)

    def test_sixty(self):
        for family, prices in slow_families():
            told = forecast(family, prices, within=60)
            self.assertEqual(repr(told), repr(PlainWindows(family, prices, 60).forecast(60)))

    def test_periods_and_starts(self):
        found = {(forecast(family, prices)[1], len(forecast(family, prices)[0])) for family, prices in slow_families()}
        self.assertGreater(len({period for period, _ in found}), 1)
        self.assertGreater(len({many - period for period, many in found}), 2)

    def test_firsts_and_steps(self):
        for family, prices in priced_families(134, 40) + slow_families():
            told = forecast(family, prices)
            if told is None:
                continue
            firsts, period, steps = told
            self.assertEqual([type(told), type(firsts), type(steps), len(steps)], [tuple, list, list, period])
            self.assertEqual(firsts, [least(family, prices, size) for size in range(len(firsts))])
            for place, step in enumerate(steps):
                size = len(firsts) - period + place
                self.assertEqual(step is None, firsts[size] is None)
                if step is not None:
                    self.assertEqual(step, least(family, prices, size + period) - firsts[size])

    def test_a_least_sum_that_turns_late(self):
        # The one ring costs less for each body, and to come to it costs more at once: up to size 19 the other one does.
        family, prices = told_apart_families()[0]
        sums = [least(family, prices, size) for size in range(61)]
        self.assertEqual(sums[:8] + sums[18:24], [11, 16, 16, 17, 18, 19, 20, 21, 32, 33, 33, 34, 34, 35])
        told = forecast(family, prices, within=60)
        self.assertGreater(len(told[0]), 19)
        self.assertEqual([far_least(family, prices, size, within=60) for size in range(61)], sums)
        self.assertIsNone(forecast(family, prices, within=20))

    def test_steps_are_equal_if_all_have_prices(self):
        for family, prices in slow_families():
            if None not in [price for column in prices[1] for price in column]:
                steps = forecast(family, prices)[2]
                self.assertEqual(len(set(steps)), 1)
                self.assertEqual(rate(family, prices)[0] * forecast(family, prices)[1],
                                 steps[0] * rate(family, prices)[1])

    def test_within_by_name_alone(self):
        with self.assertRaises(TypeError):
            forecast(TWOS, TWOS_PRICES, 24)
        with self.assertRaises(TypeError):
            far_least(TWOS, TWOS_PRICES, 3, 24)

    def test_it_is_told_anew(self):
        for part in (0, 2):
            forecast(TWOS, TWOS_PRICES)[part].clear()
            self.assertEqual(forecast(TWOS, TWOS_PRICES), ([0, 1, 2], 2, [1, 1]))


class FarLeastTest(unittest.TestCase):

    def test_by_hand(self):
        self.assertEqual(far_least(TWOS, TWOS_PRICES, 10 ** 20), 5 * 10 ** 19 + 1)
        self.assertEqual(far_least(family=TWOS, prices=TWOS_PRICES, size=10 ** 50, within=5), 5 * 10 ** 49 + 1)
        self.assertEqual([far_least(TWOS, TWOS_PRICES, size, within=5) for size in range(8)], [0, 1, 2, 2, 3, 3, 4, 4])
        self.assertEqual([far_least(LOST, LOST_PRICES, size) for size in (0, 1, 10 ** 49)], [0, None, None])

    def test_against_least(self):
        for family, prices in priced_families(135, 50) + slow_families():
            before = shape_of_priced(family, prices)
            if forecast(family, prices) is None:
                continue
            for size in (0, 1, 2, 3, 5, 8, 13, 24, 25, 40, 59, 60):
                self.assertEqual(far_least(family, prices, size), least(family, prices, size))
            self.assertEqual(shape_of_priced(family, prices), before)

    def test_one_period_more(self):
        chance = random.Random(136)
        for family, prices in priced_families(137, 30) + slow_families():
            told = forecast(family, prices)
            if told is None:
                continue
            firsts, period, steps = told
            start = len(firsts) - period
            for digits in (2, 10, 30, 50):
                size = chance.randrange(10 ** (digits - 1), 10 ** digits)
                now, later = [far_least(family, prices, some) for some in (size, size + period)]
                step = steps[(size - start) % period] if size >= start else None
                if step is None:
                    self.assertEqual((now, later), (None, None))
                else:
                    self.assertEqual(later - now, step)

    def test_within(self):
        for within in (2, 3, 4):
            with self.assertRaises(NoForecast):
                far_least(TWOS, TWOS_PRICES, 0, within=within)
        for within in (5, 6, 24, 60):
            self.assertEqual(far_least(TWOS, TWOS_PRICES, 11, within=within), 6)

    def test_no_size_ahead_of_no_forecast(self):
        for value in NO_SIZES + [60.0]:
            for within in (2, 4, 24):
                with self.assertRaises(BadSize) as caught:
                    far_least(TWOS, TWOS_PRICES, value, within=within)
                self.assertIs(caught.exception.value, value)


class ErrorsTest(unittest.TestCase):

    def asked(self, family, prices):
        return [lambda: is_window(family, prices, 1, 2), lambda: is_window(family, prices, None, None),
                lambda: forecast(family, prices), lambda: forecast(family, prices, within=2),
                lambda: far_least(family, prices, 3), lambda: far_least(family, prices, -1),
                lambda: far_least(family, prices, None, within=2)]

    def test_closed_families_come_first(self):
        for prices in (TWOS_PRICES, None, [], 7):
            for family in (Family(TWO, closed=True), Family(TWO, head=NEVER, closed=True)):
                for ask in self.asked(family, prices):
                    with self.assertRaises(ClosedWeb):
                        ask()

    def test_bad_prices(self):
        for value in odd_values() + [([], some, []) for some in no_prices_for([(1,)], 1)]:
            for ask in self.asked(TWOS, value):
                with self.assertRaises(BadPrices) as caught:
                    ask()
                self.assertIs(caught.exception.value, value)


if __name__ == "__main__":
    unittest.main()
