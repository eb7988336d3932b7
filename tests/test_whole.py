"""Points 1 to 30 over the whole program: what its papers, webs, tables, fronts and fields tell stands together."""

import itertools
import random
import unittest

from sparkrows.far import count, is_in
from sparkrows.fewest import fewest, floor, holds_floor
from sparkrows.fields import Field
from sparkrows.forecasts import far_least, forecast
from sparkrows.frames import Stretch, Web, mirrored
from sparkrows.fronts import first_front, front_of
from sparkrows.guards import guard, guard_floor, holds_guard_floor
from sparkrows.holdouts import holdout, is_holdout, is_order, lean_order
from sparkrows.papers import format_family, format_web, read_family, read_web
from sparkrows.powers import Family, power, wins, wins_at
from sparkrows.rates import behind_body, fronts_of, least, rate
from sparkrows.rounds import all_won, moment, rounds, won
from sparkrows.tables import sides, table_of
from sparkrows.views import alike
from tests.families import random_families
from tests.helpers import plain_moments, random_frame, random_stretch, random_webs, shape
from tests.priced import priced_families, priced_webs, random_prices


class WebsTest(unittest.TestCase):

    def test_what_is_read_is_won_alike(self):
        for web in random_webs(181, 80):
            again = read_web(format_web(web))
            moments = plain_moments(web)
            self.assertEqual(won(again), sorted(moments))
            self.assertEqual(rounds(again), rounds(web))
            for seat in web.seats():
                self.assertEqual(moment(again, seat), moments.get(seat))

    def test_won_and_held_out(self):
        for web in random_webs(182, 60):
            field = Field(web)
            self.assertEqual(field.outcome(), won(web))
            self.assertEqual(field.never(), holdout(web))
            self.assertEqual(sorted(won(web) + holdout(web)), web.seats())
            self.assertTrue(is_holdout(web, holdout(web)))
            self.assertTrue(is_order(web, [seat for joining in rounds(web) for seat in joining]))
            for seat in won(web):
                self.assertTrue(is_order(web, lean_order(web, seat)))

    def test_an_order_is_a_way_of_the_field(self):
        for web in random_webs(183, 40):
            for seat in won(web)[:3]:
                field = Field(web)
                for other in lean_order(web, seat):
                    if other not in field.inside:
                        field.enter(other)
                self.assertIn(seat, field.inside)


class TablesTest(unittest.TestCase):

    def test_fronts_are_tables_with_nobody_ahead(self):
        chance = random.Random(184)
        for _ in range(80):
            stretch = random_stretch(chance, random_frame(chance))
            table = table_of(stretch)
            told = tuple(table[(), side][1:] for side in sides(stretch.frame.width))
            self.assertEqual(front_of(stretch), told)
            self.assertEqual(table[(), ()][2], all_won(Web(stretch)))
            self.assertEqual(front_of(stretch)[0][1], all_won(Web(stretch)))
            back = table.mirrored()
            self.assertEqual(front_of(mirrored(stretch)),
                             tuple(back[(), side][1:] for side in sides(stretch.frame.width)))

    def test_powers_are_those_of_families(self):
        for family in random_families(185, 40):
            for times in (1, 2, 7):
                self.assertTrue(power(family.body, times) == table_of(family.body * times))
                self.assertEqual(power(family.body, times)[(), ()][2], wins_at(Family(family.body), times))

    def test_alike_stretches_in_a_family(self):
        chance = random.Random(186)
        found = 0
        for _ in range(150):
            frame = random_frame(chance)
            one, other, head = [random_stretch(chance, frame, 1, 2) for _ in range(3)]
            if alike(one, other):
                found += 1
                self.assertEqual(wins(Family(one, head=head)), wins(Family(other, head=head)))
        self.assertGreater(found, 10)


class FamiliesTest(unittest.TestCase):

    def test_small_sizes(self):
        for family in random_families(187, 60):
            firsts, turn = wins(family)
            again = read_family(format_family(family))
            for size in range(6):
                told = firsts[size] if size < len(firsts) else turn[(size - len(firsts)) % len(turn)]
                if not family.has(size):
                    self.assertIsNone(told)
                    continue
                web = again.at(size)
                self.assertEqual(shape(web), shape(family.at(size)))
                inside = won(web)
                self.assertEqual(told, inside == web.seats())
                self.assertEqual(wins_at(family, size), told)
                self.assertEqual(count(again, size), len(inside))
                for column, row in web.seats():
                    self.assertEqual(is_in(family, size, column, row), (column, row) in inside)
                self.assertEqual(Field(web).outcome(), inside)

    def test_least_sums_of_webs_that_are_won(self):
        # Where all are won as they are, nothing is to be paid, at no size.
        for family, prices in priced_families(188, 80, starters=0.4):
            for size in (1, 2, 9, 60):
                told = least(family, prices, size)
                if wins_at(family, size):
                    self.assertEqual(told, 0)
                if told == 0 and 0 not in [price for part in prices for column in part for price in column]:
                    self.assertTrue(wins_at(family, size))

    def test_far_sums_of_webs_that_are_won(self):
        for family, prices in priced_families(189, 60, starters=0.5):
            if forecast(family, prices) is not None:
                for size in (10 ** 9, 10 ** 49 + 7):
                    if wins_at(family, size):
                        self.assertEqual(far_least(family, prices, size), 0)

    def test_starters_for_a_body_in_each_place(self):
        # One and the same lot in each body, with which each size is won, costs the rate or more.
        found = 0
        for family, prices in priced_families(190, 80, most=1):
            seats = [(0, row) for row, price in enumerate(prices[1][0])
                     if price is not None and not family.body.columns[0][row][1]]
            for many in range(len(seats) + 1):
                for some in itertools.combinations(seats, many):
                    body = Web(family.body).with_starters(list(some)).stretch
                    one = Family(body, head=family.head, tail=family.tail)
                    cost = sum(prices[1][0][row] for _, row in some)
                    for size in [size for size in (1, 3, 8) if wins_at(one, size)]:
                        found += 1
                        self.assertLessEqual(least(family, prices, size), cost * size)
                    if wins(one)[1] == [True]:
                        amount, bodies = rate(family, prices)
                        self.assertLessEqual(amount, cost * bodies)
        self.assertGreater(found, 100)


class PricesTest(unittest.TestCase):

    def test_the_fewest_starters_win_all(self):
        for web, prices in priced_webs(191, 80, seats=12):
            told = fewest(web, prices)
            if told is not None:
                self.assertTrue(all_won(web.with_starters(told[1])))
                field = Field(web)
                for seat in told[1]:
                    field.put(seat)
                self.assertEqual(field.never(), [])
                self.assertTrue(holds_floor(web, prices, told[0], floor(web, prices)))
            # Without prices there is nothing to be chosen.
            none = [(None,) * web.stretch.frame.width] * len(web.stretch)
            self.assertEqual(fewest(web, none), (0, []) if all_won(web) else None)

    def test_a_guard_keeps_who_is_watched(self):
        chance = random.Random(192)
        for web, prices in priced_webs(193, 80, seats=12, starters=0.3):
            watched = chance.sample(web.seats(), min(2, len(web.seats())))
            told = guard(web, prices, watched)
            if told is not None:
                barred = web.with_bars(told[1])
                self.assertEqual([seat for seat in won(barred) if seat in watched], [])
                self.assertTrue(set(watched) <= set(holdout(barred)))
                self.assertTrue(holds_guard_floor(web, prices, watched, told[0], guard_floor(web, prices, watched)))
                # Nobody is kept out who is not won anyway, if that costs anything.
                if not set(won(web)) & set(watched):
                    self.assertEqual(told[0], 0)
            none = [(None,) * web.stretch.frame.width] * len(web.stretch)
            kept = not set(won(web)) & set(watched)
            self.assertEqual(guard(web, none, watched), (0, []) if kept else None)

    def test_to_guard_is_to_win_less(self):
        # Starters that win all and a guard of one seat cannot both be had for nothing.
        for web, prices in priced_webs(194, 60, seats=9):
            for seat in web.seats()[:2]:
                if fewest(web, prices) == (0, []) and guard(web, prices, [seat]) is not None:
                    self.assertTrue(guard(web, prices, [seat])[1])

    def test_fronts_of_webs_of_a_family(self):
        for family, prices in priced_families(195, 40):
            known = fronts_of(family, prices)
            for size in range(4):
                self.assertIn(front_of(family.head + family.body * size), known)
            front = front_of(family.head)
            for _ in range(3):
                steps = behind_body(family, prices, front)
                self.assertTrue(all(behind in known for behind in steps))
                front = max(steps)
            self.assertEqual(front_of(Stretch(family.body.frame, [])), first_front(family.body.frame.width))

    def test_mirrored_webs(self):
        chance = random.Random(196)
        for web, prices in priced_webs(197, 80, seats=12):
            back = Web(mirrored(web.stretch))
            one, other = fewest(web, prices), fewest(back, prices[::-1])
            self.assertEqual(None if one is None else one[0], None if other is None else other[0])
            seat = chance.choice(web.seats())
            prices = random_prices(chance, web.stretch)
            one = guard(web, prices, [seat])
            other = guard(back, prices[::-1], [(len(web.stretch) - 1 - seat[0], seat[1])])
            self.assertEqual(None if one is None else one[0], None if other is None else other[0])


if __name__ == "__main__":
    unittest.main()
