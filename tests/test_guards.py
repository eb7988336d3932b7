"""Point 26: guards and their floors."""

import itertools
import random
import unittest

from sparkrows.errors import BadPrices, BadSeats, ClosedWeb
from sparkrows.frames import Frame, Stretch, Web
from sparkrows.guards import guard, guard_floor, holds_guard_floor
from sparkrows.rounds import won
from tests.helpers import GREAT, held, ladder, odd_values, path_web, plain_rows, web_of
from tests.priced import (NO_AMOUNTS, ascending_sides, barred, bars, guards_all, no_fronts, no_prices_for, plain_guard,
                          priced_webs, shape_of_web, total)

PATH = Frame(1, outer=[(0, 0)])
LINE = Stretch(PATH, [((0, True),)]) + Stretch(PATH, [((1, False),)]) * 4


def guarded_webs(seed, many, seats=6, starters=0.3):
    """Open webs with prices and watched seats, in any sequence."""
    chance = random.Random(seed)
    found = []
    for web, prices in priced_webs(seed + 1000, many, seats=seats, starters=starters):
        watched = [seat for seat in web.seats() if chance.random() < 0.4]
        chance.shuffle(watched)
        found.append((web, prices, watched))
    return found


def plain_guard_front(frame, columns, watched):
    """The front of some columns that tells whether a watched seat comes to be in, by walks with each side held."""
    found = []
    for side in ascending_sides(frame.width):
        if not columns:
            found.append(((), False))
            continue
        rows = plain_rows(web_of(frame, [*columns, held(frame, side)]))[:-1]
        found.append((rows[-1], any(row in rows[column] for column, row in watched if column < len(rows))))
    return tuple(found)


def all_fronts(web, prices, watched):
    """For each number of columns the least sums of all fronts that bars lead to, by plain walks."""
    frame, columns = web.stretch.frame, web.stretch.columns
    found = []
    for many in range(len(columns) + 1):
        sums = {}
        for cost, some in bars(columns[:many], prices[:many]):
            front = plain_guard_front(frame, barred(columns[:many], some), watched)
            sums[front] = min(cost, sums.get(front, cost))
        found.append(sums)
    return found


def copied(value):
    return [dict(sums) for sums in value]


class GuardTest(unittest.TestCase):

    def good_guard(self, web, prices, watched, told):
        cost, some = told
        self.assertEqual([type(told), type(some)], [tuple, list])
        self.assertEqual(some, sorted(set(some)))
        for column, row in some:
            self.assertIsNotNone(prices[column][row])
        self.assertEqual(repr(cost), repr(total(prices, some)))
        self.assertTrue(guards_all(web.stretch.frame, barred(web.stretch.columns, some), watched))
        self.assertFalse([seat for seat in won(web.with_bars(some)) if seat in watched])

    def test_by_hand(self):
        web = Web(LINE)
        self.assertEqual(guard(web, [(None,), (3,), (1,), (2,), (None,)], [(4, 0)]), (1, [(2, 0)]))
        self.assertIsNone(guard(web, [(None,)] * 5, [(1, 0)]))
        self.assertEqual(guard(web, [(None,)] * 5, []), (0, []))
        self.assertEqual(guard(web=web, prices=[(9,), (3,), (1,), (2,), (0,)], watched=[(4, 0)]), (0, [(4, 0)]))
        self.assertEqual(guard(web, [(9,), (3,), (1,), (2,), (0,)], [(4, 0), (1, 0)]), (3, [(1, 0)]))
        self.assertEqual(guard(web, [(2,), (3,), (1,), (2,), (0,)], [(4, 0), (1, 0)]), (2, [(0, 0)]))

    def test_against_all_guards(self):
        seen = {1: 0, 2: 0, 3: 0, None: 0}
        for web, prices, watched in guarded_webs(141, 260):
            before = shape_of_web(web, prices) + repr(watched)
            told = guard(web, prices, watched)
            expected = plain_guard(web.stretch.frame, web.stretch.columns, prices, watched)
            self.assertEqual(None if told is None else told[0], expected)
            if told is not None:
                self.good_guard(web, prices, watched, told)
            self.assertEqual(shape_of_web(web, prices) + repr(watched), before)
            seen[None if told is None else web.stretch.frame.width] += 1
        self.assertGreater(min(seen.values()), 20)

    def test_seats_that_start(self):
        web = path_web([(5, True), (1, False), (9, True)])
        self.assertIsNone(guard(web, [(None,), (1,), (1,)], [(0, 0)]))
        self.assertEqual(guard(web, [(4,), (1,), (1,)], [(0, 0)]), (4, [(0, 0)]))
        self.assertEqual(guard(web, [(0,), (1,), (0,)], [(2, 0), (0, 0)]), (0, [(0, 0), (2, 0)]))
        # Both neighbours of the seat in the middle start; to bar it costs less.
        self.assertEqual(guard(web, [(1,), (3,), (1,)], [(1, 0)]), (2, [(0, 0), (2, 0)]))
        self.assertEqual(guard(web, [(1,), (1,), (1,)], [(1, 0)]), (1, [(1, 0)]))

    def test_no_watched_seats(self):
        for web, prices, _ in guarded_webs(142, 30):
            told = guard(web, prices, [])
            self.assertEqual(told[0], 0)
            self.good_guard(web, prices, [], told)

    def test_a_seat_that_is_never_won(self):
        web = path_web([(0, True), (9, False), (1, False)])
        self.assertEqual(guard(web, [(None,)] * 3, [(2, 0), (1, 0)]), (0, []))

    def test_great_webs(self):
        web = Web(LINE + LINE * 11)
        prices = [((7 * place) % 11 + 1,) for place in range(60)]
        told = guard(web, prices, [(59, 0), (31, 0)])
        self.good_guard(web, prices, [(59, 0), (31, 0)], told)
        self.assertIs(holds_guard_floor(web, prices, [(59, 0), (31, 0)], told[0],
                                        guard_floor(web, prices, [(59, 0), (31, 0)])), True)

    def test_it_is_told_anew(self):
        web, prices = Web(LINE), [(None,), (3,), (1,), (2,), (None,)]
        guard(web, prices, [(4, 0)])[1].append("more")
        self.assertEqual(guard(web, prices, [(4, 0)]), (1, [(2, 0)]))


class FloorTest(unittest.TestCase):

    def told(self, seed, many, seats=6):
        found = []
        for web, prices, watched in guarded_webs(seed, many, seats):
            best = guard(web, prices, watched)
            found.append((web, prices, watched, None if best is None else best[0], guard_floor(web, prices, watched)))
        return found

    def test_what_is_told_is_held(self):
        for web, prices, watched, amount, value in self.told(143, 120):
            before = shape_of_web(web, prices) + repr(watched)
            self.assertIs(type(value), list)
            self.assertEqual([type(sums) for sums in value], [dict] * (len(web.stretch) + 1))
            self.assertIs(holds_guard_floor(web, prices, watched, amount, value), True)
            self.assertIs(holds_guard_floor(web, prices, watched[::-1], amount, value), True)
            self.assertEqual(shape_of_web(web, prices) + repr(watched), before)

    def test_the_first_front(self):
        for width in (1, 2, 3):
            web, prices = web_of(ladder(width), [((1, False),) * width]), [(1,) * width]
            self.assertEqual(guard_floor(web, prices, [(0, 0)])[0], {(((), False),) * 2 ** width: 0})

    def test_the_least_sums_of_all_fronts_are_held(self):
        for web, prices, watched, amount, value in self.told(144, 60):
            least = all_fronts(web, prices, watched)
            self.assertIs(holds_guard_floor(web=web, prices=prices, watched=watched, amount=amount, value=least), True)
            for sums, told in zip(least, value):
                for front in sums:
                    self.assertLessEqual(told[front], sums[front])

    def test_amounts(self):
        seen = [0, 0]
        for web, prices, watched, amount, _ in self.told(145, 100):
            value = all_fronts(web, prices, watched)
            seen[amount is None] += 1
            if amount is None:
                for other in (0, 1, -1, GREAT, -GREAT, 3):
                    self.assertIs(holds_guard_floor(web, prices, watched, other, value), True)
            else:
                for other in (amount + 1, GREAT, None):
                    self.assertIs(holds_guard_floor(web, prices, watched, other, value), False)
                for other in (amount - 1, -1, -GREAT):
                    self.assertIs(holds_guard_floor(web, prices, watched, other, value), True)
        self.assertGreater(min(seen), 5)

    def by_the_words(self, web, prices, watched, amount, value):
        """Whether dicts from fronts that come about to integers are a floor, told by walks."""
        frame, columns = web.stretch.frame, web.stretch.columns
        if value[0].get((((), False),) * 2 ** frame.width, 1) > 0:
            return False
        lines = [{} for _ in value]
        for many in range(len(columns) + 1):
            for _, some in bars(columns[:many], prices[:many]):
                line = barred(columns[:many], some)
                lines[many].setdefault(plain_guard_front(frame, line, watched), line)
        for place, column in enumerate(columns):
            for front, number in value[place].items():
                for cost, some in bars([column], [prices[place]]):
                    behind = plain_guard_front(frame, lines[place][front] + barred([column], some), watched)
                    if behind not in value[place + 1] or value[place + 1][behind] > number + cost:
                        return False
        return all(amount is not None and number >= amount for front, number in value[-1].items() if not front[0][1])

    def test_one_number_greater_or_less(self):
        seen = [0, 0]
        for web, prices, watched, amount, _ in self.told(146, 40, seats=5):
            least = all_fronts(web, prices, watched)
            for place, sums in enumerate(least):
                for front in sums:
                    more, less = copied(least), copied(least)
                    more[place][front] += 1
                    less[place][front] -= 1
                    self.assertIs(holds_guard_floor(web, prices, watched, amount, more), False)
                    expected = self.by_the_words(web, prices, watched, amount, less)
                    self.assertIs(holds_guard_floor(web, prices, watched, amount, less), expected)
                    seen[expected] += 1
        self.assertGreater(min(seen), 30)

    def test_fronts_left_out(self):
        for web, prices, watched, amount, value in self.told(147, 30):
            for place, sums in enumerate(all_fronts(web, prices, watched)):
                for front in sums:
                    less = copied(value)
                    del less[place][front]
                    self.assertIs(holds_guard_floor(web, prices, watched, amount, less), False)

    def test_fronts_that_do_not_come_about(self):
        # Nobody starts; the one more front tells that the seat ahead is in, and not watched.
        web, prices, watched = path_web([(1, False), (1, False)]), [(2,), (None,)], [(1, 0)]
        still, calm, alarm = (((), False),) * 2, (((), False), ((0,), False)), (((), False), ((0,), True))
        value = all_fronts(web, prices, watched)
        self.assertEqual(value, [{still: 0}, {calm: 0, still: 2}, {alarm: 0}])
        # Behind a row that is in stands one that is in and seen, whatever is behind.
        more, seen = (((0,), False),) * 2, (((0,), True),) * 2
        self.assertIs(holds_guard_floor(web, prices, watched, 0, value), True)
        for number, last, expected in ((4, None, False), (4, 4, True), (4, 5, False), (0, 0, True), (0, 1, False)):
            exchanged = copied(value)
            exchanged[1][more] = number
            if last is not None:
                exchanged[2][seen] = last
            self.assertIs(holds_guard_floor(web, prices, watched, 0, exchanged), expected)

    def test_dicts_left_out_put_in_and_exchanged(self):
        for web, prices, watched, amount, value in self.told(148, 40):
            for place in range(len(value)):
                ahead, behind = value[:place], value[place + 1:]
                self.assertIs(holds_guard_floor(web, prices, watched, amount, ahead + behind), False)
                self.assertIs(holds_guard_floor(web, prices, watched, amount, ahead + [{}] + value[place:]), False)
                for wrong in ({}, None, [], list(value[place].items()), 0, ((),)):
                    self.assertIs(holds_guard_floor(web, prices, watched, amount, ahead + [wrong] + behind), False)
            self.assertIs(holds_guard_floor(web, prices, watched, amount, tuple(value)), False)
            turned = [{front: sums[front] for front in list(sums)[::-1]} for sums in value]
            self.assertIs(holds_guard_floor(web, prices, watched, amount, turned), True)

    def test_the_bools_are_those_of_guards(self):
        # The first front of starters tells full; that of a guard tells that nobody watched is in.
        web, prices = path_web([(1, False)]), [(1,)]
        value = guard_floor(web, prices, [(0, 0)])
        turned = [{tuple((rows, not told) for rows, told in front): sums[front] for front in sums} for sums in value]
        self.assertIs(holds_guard_floor(web, prices, [(0, 0)], 0, value), True)
        self.assertIs(holds_guard_floor(web, prices, [(0, 0)], 0, turned), False)

    def test_fronts_and_numbers_of_other_kinds(self):
        web, prices, watched = web_of(ladder(2), [((1, True), (1, False))] * 2), [(1, 2)] * 2, [(1, 1)]
        amount, value = guard(web, prices, watched)[0], guard_floor(web, prices, watched)
        for place, sums in enumerate(value):
            for front in sums:
                rest = {other: sums[other] for other in sums if other != front}
                for wrong in no_fronts(front):
                    try:
                        exchanged = {**rest, wrong: sums[front]}
                    except TypeError:
                        continue
                    told = value[:place] + [exchanged] + value[place + 1:]
                    self.assertIs(holds_guard_floor(web, prices, watched, amount, told), False)
                for wrong in [None, "0", (), [], {}, True, False]:
                    told = value[:place] + [{**sums, front: wrong}] + value[place + 1:]
                    self.assertIs(holds_guard_floor(web, prices, watched, amount, told), False)

    def test_values_of_any_kind(self):
        for web, prices, watched, amount, value in self.told(149, 6):
            for wrong in odd_values():
                self.assertIs(holds_guard_floor(web, prices, watched, amount, wrong), False)
                self.assertIs(holds_guard_floor(web, prices, watched, amount, [wrong] * len(value)), False)
            for wrong in NO_AMOUNTS:
                self.assertIs(holds_guard_floor(web, prices, watched, wrong, value), False)

    def test_it_is_told_anew(self):
        web, prices = Web(LINE), [(None,), (3,), (1,), (2,), (None,)]
        before = copied(guard_floor(web, prices, [(4, 0)]))
        told = guard_floor(web, prices, [(4, 0)])
        for sums in told:
            sums.clear()
        told.clear()
        self.assertEqual(guard_floor(web=web, prices=prices, watched=[(4, 0)]), before)


class ErrorsTest(unittest.TestCase):

    def asked(self, web, prices, watched):
        return [lambda: guard(web, prices, watched), lambda: guard_floor(web, prices, watched),
                lambda: holds_guard_floor(web, prices, watched, 0, [{}]),
                lambda: holds_guard_floor(web, prices, watched, "no", None)]

    def test_closed_webs_come_first(self):
        web = Web(LINE, closed=True)
        for prices, watched in itertools.product([[(1,)] * 5, None, [], 1], [[], [(0, 0)], None, [(9, 9)]]):
            for ask in self.asked(web, prices, watched):
                with self.assertRaises(ClosedWeb):
                    ask()

    def test_bad_prices_come_next(self):
        for width in (1, 2, 3):
            web = web_of(ladder(width), [((1, False),) * width, ((0, True),) * width])
            for value in no_prices_for([(0,) * width, (1000,) * width], width):
                for watched in ([], [(0, 0)], None, [(9, 9)]):
                    for ask in self.asked(web, value, watched):
                        with self.assertRaises(BadPrices) as caught:
                            ask()
                        self.assertIs(caught.exception.value, value)

    def test_bad_seats(self):
        web, prices = path_web([(1, False), (0, True)]), [(1,), (None,)]
        wrong = [value for value in odd_values() if value != []]
        wrong += [((0, 0),), [(0, 0), (0, 0)], [(0, 0), (2, 0)], [(0, 1)], [(-1, 0)], [(0, False)], [(True, 0)],
                  [[0, 0]], [(0, 0), None], {(0, 0): True}, (0, 0), [(0, 0, 0)], [0, 0]]
        for value in wrong:
            for ask in self.asked(web, prices, value):
                with self.assertRaises(BadSeats) as caught:
                    ask()
                self.assertIs(caught.exception.value, value)


if __name__ == "__main__":
    unittest.main()
