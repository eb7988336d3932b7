"""Points 8 and 9: holdouts, orders, lean orders."""

import itertools
import unittest

from sparkrows.errors import NoSeat
from sparkrows.holdouts import holdout, is_holdout, is_lean, is_order, lean_order
from tests.helpers import (ladder, odd_values, path_web, plain_moments, plain_neighbours, random_webs, shape,
                           small_webs, web_of)

ONE, TWO, NEVER, ZERO, SPARK = (1, False), (2, False), (9, False), (0, False), (5, True)


def plain_holdout(web, seats):
    near = plain_neighbours(web)
    for seat in seats:
        need, starts = web.cell(seat)
        if starts or len([other for other in near[seat] if other not in seats]) >= need:
            return False
    return True


def plain_order(web, seats):
    near = plain_neighbours(web)
    for place, seat in enumerate(seats):
        need, starts = web.cell(seat)
        if not starts and len([other for other in seats[:place] if other in near[seat]]) < need:
            return False
    return True


def plain_lean(web, seat, seats):
    if not seats or seats[-1] != seat or not plain_order(web, seats):
        return False
    return not any(plain_order(web, seats[:k] + seats[k + 1:]) for k in range(len(seats) - 1))


def spoilt(seats):
    """Values that are near to a list of seats, and are no list of unlike seats."""
    found = [tuple(seats), {seat: True for seat in seats}, [list(seat) for seat in seats], [seats], str(seats)]
    for place, (column, row) in enumerate(seats):
        for other in ((bool(column), row), (column, bool(row)), [column, row], (column, row, 0), (column,), column,
                      (str(column), row), (-1, row), (column, 3), (60, row), None, ((column, row),)):
            found.append(seats[:place] + [other] + seats[place + 1:])
        found.append(seats + [(column, row)])
        found.append([(column, row)] + seats)
    return [value for value in found if value != []]


def small_lists(web, most):
    """All lists of up to that many unlike seats, in any order."""
    for many in range(most + 1):
        for choice in itertools.permutations(web.seats(), many):
            yield list(choice)


class HoldoutTest(unittest.TestCase):

    def test_the_greatest_one(self):
        web = path_web([ONE, ONE, TWO, SPARK, NEVER, ZERO])
        self.assertEqual(holdout(web), [(0, 0), (1, 0), (2, 0), (4, 0)])
        self.assertEqual(holdout(web=path_web([SPARK, ONE])), [])
        self.assertEqual(holdout(path_web([ONE] * 3, closed=True)), [(0, 0), (1, 0), (2, 0)])

    def test_the_greatest_one_is_what_is_not_won(self):
        for web in small_webs() + random_webs(3, 300):
            before, moments = shape(web), plain_moments(web)
            self.assertEqual(holdout(web), [seat for seat in web.seats() if seat not in moments])
            self.assertIs(is_holdout(web, holdout(web)), True)
            self.assertEqual(shape(web), before)

    def test_in_any_order_and_not_the_greatest(self):
        web = path_web([ONE, ONE, TWO, SPARK, NEVER])
        for value in ([], [(0, 0), (1, 0), (2, 0)], [(1, 0), (2, 0), (0, 0)], [(4, 0)],
                      [(2, 0), (1, 0), (4, 0), (0, 0)]):
            self.assertIs(is_holdout(web, value), True)
        for value in ([(0, 0)], [(0, 0), (1, 0)], [(1, 0), (3, 0)], [(3, 0)], [(4, 0), (1, 0)], [(2, 0)]):
            self.assertIs(is_holdout(web=web, value=value), False)

    def test_as_many_outside_as_needed_are_too_many(self):
        web = path_web([SPARK, TWO, SPARK])
        self.assertIs(is_holdout(web, [(1, 0)]), False)
        self.assertIs(is_holdout(path_web([SPARK, (3, False), SPARK]), [(1, 0)]), True)
        self.assertIs(is_holdout(path_web([ZERO]), [(0, 0)]), False)

    def test_a_starter_never_holds_out(self):
        self.assertIs(is_holdout(path_web([(9, True)]), [(0, 0)]), False)
        self.assertIs(is_holdout(path_web([(9, True), NEVER]), [(1, 0), (0, 0)]), False)

    def test_by_the_words_for_all_lists_of_small_webs(self):
        for web in small_webs() + random_webs(4, 60, most=2):
            for value in small_lists(web, 3):
                self.assertIs(is_holdout(web, value), plain_holdout(web, value))

    def test_a_seat_put_in_left_out_or_exchanged(self):
        for web in random_webs(5, 100):
            value = holdout(web)
            for seat in web.seats():
                left = [other for other in value if other != seat]
                self.assertIs(is_holdout(web, left), plain_holdout(web, left))
                for more in (left + [seat], [seat] + left, left[1:] + [seat]):
                    self.assertIs(is_holdout(web, more), plain_holdout(web, more))

    def test_any_value(self):
        webs = [path_web([ONE, ONE, TWO]), web_of(ladder(2), [(NEVER, NEVER)] * 3, closed=True)]
        for web in webs:
            for value in odd_values():
                self.assertIs(is_holdout(web, value), value == [], value)
            for value in spoilt(holdout(web)):
                self.assertIs(is_holdout(web, value), False, value)

    def test_what_is_returned_is_new(self):
        web = path_web([ONE, ONE])
        holdout(web).clear()
        self.assertEqual(holdout(web), [(0, 0), (1, 0)])


class OrderTest(unittest.TestCase):

    def test_some_orders(self):
        web = path_web([SPARK, ONE, TWO, ONE, SPARK, ZERO])
        for value in ([], [(0, 0)], [(0, 0), (1, 0)], [(5, 0)], [(4, 0), (3, 0), (0, 0), (1, 0), (2, 0), (5, 0)]):
            self.assertIs(is_order(web, value), True)
        for value in ([(1, 0)], [(1, 0), (0, 0)], [(0, 0), (1, 0), (2, 0)], [(0, 0), (3, 0)], [(2, 0)]):
            self.assertIs(is_order(web=web, value=value), False)

    def test_by_the_words_for_all_lists_of_small_webs(self):
        for web in small_webs() + random_webs(6, 60, most=2):
            for value in small_lists(web, 3):
                self.assertIs(is_order(web, value), plain_order(web, value))

    def test_two_seats_exchanged(self):
        for web in random_webs(7, 60):
            moments = plain_moments(web)
            line = sorted(moments, key=lambda seat: (moments[seat], seat))
            self.assertIs(is_order(web, line), True)
            for one, other in itertools.combinations(range(len(line)), 2):
                value = list(line)
                value[one], value[other] = line[other], line[one]
                self.assertIs(is_order(web, value), plain_order(web, value))

    def test_any_value(self):
        webs = [path_web([SPARK, ONE, ONE]), web_of(ladder(2), [(SPARK, ONE)] * 3, closed=True)]
        for web in webs:
            for value in odd_values():
                self.assertIs(is_order(web, value), value == [], value)
            self.assertIs(is_order(web, web.seats()), True)
            for value in spoilt(web.seats()):
                self.assertIs(is_order(web, value), False, value)


class LeanOrderTest(unittest.TestCase):

    def test_some_lean_orders(self):
        web = path_web([SPARK, ONE, TWO, ONE, SPARK])
        self.assertEqual(lean_order(web, (0, 0)), [(0, 0)])
        self.assertEqual(lean_order(web=web, seat=(1, 0)), [(0, 0), (1, 0)])
        self.assertEqual(sorted(lean_order(web, (2, 0))), web.seats())
        self.assertIs(is_lean(web, (1, 0), [(0, 0), (1, 0)]), True)
        self.assertIs(is_lean(web, (1, 0), [(4, 0), (0, 0), (1, 0)]), False)
        self.assertIs(is_lean(web, (0, 0), [(0, 0), (1, 0)]), False)
        self.assertIs(is_lean(web, (0, 0), []), False)
        self.assertIs(is_lean(web, (2, 0), [(4, 0), (0, 0), (1, 0), (3, 0), (2, 0)]), True)

    def test_neighbours_that_are_not_needed_are_left_out(self):
        web = path_web([SPARK, ONE, SPARK])
        self.assertIn(lean_order(web, (1, 0)), ([(0, 0), (1, 0)], [(2, 0), (1, 0)]))
        self.assertIs(is_lean(web=web, seat=(1, 0), value=[(0, 0), (2, 0), (1, 0)]), False)
        zero = path_web([SPARK, ZERO, SPARK])
        self.assertEqual(lean_order(zero, (1, 0)), [(1, 0)])
        self.assertIs(is_lean(zero, (1, 0), [(0, 0), (1, 0)]), False)

    def test_a_starter_needs_nobody(self):
        web = path_web([SPARK, (1, True)])
        self.assertEqual(lean_order(web, (1, 0)), [(1, 0)])
        self.assertIs(is_lean(web, (1, 0), [(0, 0), (1, 0)]), False)

    def test_none_for_a_seat_that_is_not_won(self):
        self.assertIsNone(lean_order(path_web([SPARK, TWO]), (1, 0)))
        self.assertIsNone(lean_order(path_web([ONE] * 3, closed=True), (2, 0)))

    def test_to_each_seat_of_many_webs(self):
        for web in small_webs() + random_webs(8, 300, most=8):
            before, moments = shape(web), plain_moments(web)
            for seat in web.seats():
                found = lean_order(web, seat)
                if seat not in moments:
                    self.assertIsNone(found)
                    continue
                self.assertTrue(plain_lean(web, seat, found))
                self.assertIs(is_lean(web, seat, found), True)
            self.assertEqual(shape(web), before)

    def test_by_the_words_for_all_lists_of_small_webs(self):
        for web in small_webs() + random_webs(9, 40, most=2):
            for value in small_lists(web, 3):
                for seat in web.seats():
                    self.assertIs(is_lean(web, seat, value), plain_lean(web, seat, value))

    def test_a_seat_put_in_left_out_or_exchanged(self):
        for web in random_webs(10, 60, least=3, most=5):
            for seat in web.seats():
                value = lean_order(web, seat)
                if value is None:
                    continue
                for place in range(len(value)):
                    for other in [None, *web.seats()]:
                        more = value[:place] + ([] if other is None else [other]) + value[place + 1:]
                        put = value[:place] + ([] if other is None else [other]) + value[place:]
                        for some in (more, put):
                            expected = web.are_seats(some) and plain_lean(web, seat, some)
                            self.assertIs(is_lean(web, seat, some), expected)

    def test_any_value(self):
        web = path_web([SPARK, ONE, ONE], closed=True)
        ring = web_of(ladder(2), [(SPARK, ONE), (TWO, TWO), (ONE, TWO)], closed=True)
        for some in (web, ring):
            for seat in some.seats():
                for value in odd_values() + spoilt(lean_order(some, seat)):
                    self.assertIs(is_lean(some, seat, value), False, value)

    def test_no_seat(self):
        web = path_web([SPARK, ONE, TWO])
        for value in odd_values() + [(0, 1), (3, 0), (True, 0), (0, False), [0, 0], (-1, 0)]:
            for call in (lambda: lean_order(web, value), lambda: is_lean(web, value, [(0, 0)]),
                         lambda: is_lean(web, value, [value]), lambda: is_lean(web, value, None)):
                with self.assertRaises(NoSeat) as caught:
                    call()
                self.assertIs(caught.exception.value, value)

    def test_what_is_handed_in_stays(self):
        web, value = path_web([SPARK, ONE]), [(0, 0), (1, 0)]
        is_lean(web, (1, 0), value)
        is_order(web, value)
        is_holdout(web, value)
        self.assertEqual(value, [(0, 0), (1, 0)])
        lean_order(web, (1, 0)).clear()
        self.assertEqual(lean_order(web, (1, 0)), value)

    def test_a_web_of_sixty_columns(self):
        web = web_of(ladder(3), [(SPARK, ONE, ONE)] + [(ONE, TWO, TWO)] * 59)
        for seat in ((59, 0), (59, 2), (30, 1)):
            found = lean_order(web, seat)
            self.assertIs(is_lean(web, seat, found), True)
            self.assertIs(is_order(web, found), True)


if __name__ == "__main__":
    unittest.main()
