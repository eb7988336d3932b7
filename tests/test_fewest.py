"""Points 20 and 21: prices for a stretch, lots, floors, the fewest starters."""

import itertools
import random
import unittest

from sparkrows.errors import BadPrices, ClosedWeb
from sparkrows.fewest import fewest, floor, holds_floor, is_prices
from sparkrows.frames import Frame, Stretch, Web
from sparkrows.fronts import first_front
from sparkrows.rounds import all_won
from tests.helpers import GREAT, ladder, odd_values, path_web, random_frame, random_stretch, web_of
from tests.priced import (NO_AMOUNTS, lots, no_fronts, no_prices_for, plain_fewest, plain_front, priced_webs,
                          random_prices, shape_of_web, started, total, wins_all)

PATH = Frame(1, outer=[(0, 0)])
TWO = Stretch(PATH, [((2, False),)])


def all_fronts(web, prices):
    """For each number of columns the least sums of all fronts that choices lead to, by plain walks."""
    frame, columns = web.stretch.frame, web.stretch.columns
    found = []
    for many in range(len(columns) + 1):
        sums = {}
        for cost, some in lots(columns[:many], prices[:many]):
            front = plain_front(frame, started(columns[:many], some))
            sums[front] = min(cost, sums.get(front, cost))
        found.append(sums)
    return found


def copied(value):
    return [dict(sums) for sums in value]


class PricesTest(unittest.TestCase):

    def test_right_ones(self):
        for width in (1, 2, 3):
            stretch = Stretch(ladder(width), [((1, False),) * width, ((0, True),) * width, ((9, False),) * width])
            for price in (0, 1, 999, 1000, None):
                for closed in (False, True):
                    self.assertIs(is_prices(Web(stretch, closed=closed), [(price,) * width] * 3), True)
        self.assertIs(is_prices(web=path_web([(1, False)]), value=[(None,)]), True)

    def test_wrong_ones(self):
        for width in (1, 2, 3):
            web = web_of(ladder(width), [((1, False),) * width] * 3)
            good = [(0,) * width, (None,) * width, (1000,) * width]
            self.assertIs(is_prices(web, good), True)
            for value in no_prices_for(good, width):
                self.assertIs(is_prices(web, value), False)

    def test_prices_of_other_webs(self):
        web = web_of(ladder(2), [((1, False), (1, False))] * 2)
        for value in ([(1, 1)], [(1, 1)] * 3, [(1,)] * 2, [(1, 1, 1)] * 2, [(1,)] * 4, []):
            self.assertIs(is_prices(web, value), False)


class FewestTest(unittest.TestCase):

    def good_lot(self, web, prices, told):
        """A lot is an ascending list of seats that may be made starters, with its sum, and all are won."""
        cost, some = told
        columns = web.stretch.columns
        self.assertIs(type(told), tuple)
        self.assertIs(type(some), list)
        self.assertEqual(some, sorted(set(some)))
        for column, row in some:
            self.assertIs(columns[column][row][1], False)
            self.assertIsNotNone(prices[column][row])
        self.assertEqual(repr(cost), repr(total(prices, some)))
        self.assertTrue(wins_all(web.stretch.frame, started(columns, some)))
        self.assertTrue(all_won(web.with_starters(some)))

    def test_by_hand(self):
        self.assertEqual(fewest(Web(TWO * 5), [(1,)] * 5), (3, [(0, 0), (2, 0), (4, 0)]))
        self.assertEqual(fewest(Web(TWO * 5), [(1,), (1,), (5,), (1,), (1,)]), (4, [(0, 0), (1, 0), (3, 0), (4, 0)]))
        self.assertIsNone(fewest(Web(TWO), [(None,)]))
        self.assertEqual(fewest(web=Web(TWO), prices=[(1000,)]), (1000, [(0, 0)]))

    def test_against_all_lots(self):
        seen = {1: 0, 2: 0, 3: 0, None: 0}
        for web, prices in priced_webs(91, 260):
            before = shape_of_web(web, prices)
            told = fewest(web, prices)
            expected = plain_fewest(web.stretch.frame, web.stretch.columns, prices)
            self.assertEqual(None if told is None else told[0], expected)
            if told is not None:
                self.good_lot(web, prices, told)
            self.assertEqual(shape_of_web(web, prices), before)
            seen[None if told is None else web.stretch.frame.width] += 1
        self.assertGreater(min(seen.values()), 30)

    def test_a_seat_that_starts_has_a_price(self):
        # That of a seat that starts is never paid, even if it is 0.
        web = path_web([(5, True), (1, False), (3, False), (9, True)])
        for price in (0, 7, None):
            self.assertEqual(fewest(web, [(price,), (price,), (3,), (price,)]), (3, [(2, 0)]))
            self.assertIsNone(fewest(web, [(0,), (0,), (None,), (0,)]))

    def test_won_as_it_is(self):
        for prices in ([(None,)] * 3, [(4,)] * 3):
            self.assertEqual(fewest(path_web([(1, False), (0, True), (1, False)]), prices), (0, []))

    def test_prices_of_0(self):
        web = path_web([(2, False), (2, False), (2, False)])
        told = fewest(web, [(0,)] * 3)
        self.good_lot(web, [(0,)] * 3, told)
        self.assertEqual(told[0], 0)
        self.assertEqual(fewest(web, [(9,), (0,), (9,)])[0], 18)

    def test_no_lot_wins_all(self):
        web = path_web([(2, False), (9, False), (2, False)])
        self.assertIsNone(fewest(web, [(1,), (None,), (1,)]))
        self.assertEqual(fewest(web, [(1,), (1,), (1,)]), (3, [(0, 0), (1, 0), (2, 0)]))
        self.assertEqual(fewest(web, [(1,), (5,), (1,)])[0], 7)

    def test_great_webs(self):
        # A path of seats that need 2 is won just if no two of them, and no end, lack.
        web = Web(TWO * 60)
        self.assertEqual(fewest(web, [(1,)] * 60)[0], 31)
        prices = [(1,), (3,)] * 30
        self.assertEqual(fewest(web, prices)[0], 33)
        self.good_lot(web, prices, fewest(web, prices))
        chance = random.Random(92)
        for _ in range(6):
            stretch = random_stretch(chance, random_frame(chance), 20, 20)
            prices = random_prices(chance, stretch, 0.1, 1000)
            told = fewest(Web(stretch), prices)
            if told is not None:
                self.good_lot(Web(stretch), prices, told)
            self.assertIs(holds_floor(Web(stretch), prices, None if told is None else told[0],
                                      floor(Web(stretch), prices)), True)

    def test_it_is_told_anew(self):
        web, prices = Web(TWO * 3), [(1,)] * 3
        fewest(web, prices)[1].append("more")
        self.assertEqual(fewest(web, prices), (2, [(0, 0), (2, 0)]))


class FloorTest(unittest.TestCase):

    def told(self, seed, many, seats=6):
        found = []
        for web, prices in priced_webs(seed, many, seats=seats):
            best = fewest(web, prices)
            found.append((web, prices, None if best is None else best[0], floor(web, prices)))
        return found

    def test_what_is_told_is_held(self):
        for web, prices, amount, value in self.told(93, 120):
            before = shape_of_web(web, prices)
            self.assertIs(type(value), list)
            self.assertEqual([type(sums) for sums in value], [dict] * (len(web.stretch) + 1))
            self.assertIs(holds_floor(web, prices, amount, value), True)
            self.assertEqual(shape_of_web(web, prices), before)

    def test_the_least_sums_of_all_fronts_are_held(self):
        for web, prices, amount, value in self.told(94, 60):
            least = all_fronts(web, prices)
            self.assertIs(holds_floor(web=web, prices=prices, amount=amount, value=least), True)
            # No number of a floor is greater, and no front that choices lead to lacks.
            for sums, told in zip(least, value):
                for front in sums:
                    self.assertLessEqual(told[front], sums[front])

    def test_amounts(self):
        for web, prices, amount, _ in self.told(95, 80):
            value = all_fronts(web, prices)
            if amount is None:
                for other in (0, 1, -1, GREAT, -GREAT, 3):
                    self.assertIs(holds_floor(web, prices, other, value), True)
            else:
                self.assertIs(holds_floor(web, prices, amount + 1, value), False)
                self.assertIs(holds_floor(web, prices, GREAT, value), False)
                self.assertIs(holds_floor(web, prices, None, value), False)
                for other in (amount - 1, 0, -5, -GREAT):
                    self.assertIs(holds_floor(web, prices, other, value), True)

    def test_one_number_greater_or_less(self):
        # Least sums are as great as can be: each greater one, but for those in the end, is told to be wrong.
        seen = [0, 0]
        for web, prices, amount, _ in self.told(96, 40):
            least = all_fronts(web, prices)
            for place, sums in enumerate(least):
                for front in sums:
                    more, less = copied(least), copied(least)
                    more[place][front] += 1
                    less[place][front] -= 1
                    self.assertIs(holds_floor(web, prices, amount, more), False)
                    expected = self.by_the_words(web, prices, amount, less)
                    self.assertIs(holds_floor(web, prices, amount, less), expected)
                    seen[expected] += 1
        self.assertGreater(min(seen), 30)

    def by_the_words(self, web, prices, amount, value):
        """Whether dicts from fronts that come about to integers are a floor, told by walks."""
        frame, columns = web.stretch.frame, web.stretch.columns
        if value[0].get(first_front(frame.width), 1) > 0:
            return False
        lines = [{} for _ in value]
        for many in range(len(columns) + 1):
            for _, some in lots(columns[:many], prices[:many]):
                line = started(columns[:many], some)
                lines[many].setdefault(plain_front(frame, line), line)
        for place, column in enumerate(columns):
            for front, number in value[place].items():
                for cost, some in lots([column], [prices[place]]):
                    behind = plain_front(frame, lines[place][front] + started([column], some))
                    if behind not in value[place + 1] or value[place + 1][behind] > number + cost:
                        return False
        return all(amount is not None and number >= amount for front, number in value[-1].items() if front[0][1])

    def test_fronts_left_out_and_put_in(self):
        for web, prices, amount, value in self.told(97, 30):
            for place, sums in enumerate(value):
                for front in all_fronts(web, prices)[place]:
                    less = copied(value)
                    del less[place][front]
                    self.assertIs(holds_floor(web, prices, amount, less), False)

    def test_fronts_that_do_not_come_about(self):
        # Such a front is taken if what is behind it is there, too, and low enough.
        web, prices = Web(TWO * 2), [(1,)] * 2
        never, lone, half, done = ((((), False),) * 2, (((0,), False),) * 2, (((), False), ((0,), True)),
                                   (((0,), True),) * 2)
        value = [{first_front(1): 0}, {never: 0, done: 1}, {never: 0, lone: 1, half: 1, done: 2}]
        self.assertEqual(all_fronts(web, prices), value)
        # Behind the one more front stands half, or done at one more; behind half stands never, or done at one more.
        for number, behind, expected in ((7, None, False), (7, 7, True), (7, 8, False), (7, 1, True), (7, 0, False),
                                         (1, 1, True), (0, 0, False), (-1, -1, False), (GREAT, GREAT, True)):
            more = copied(value)
            more[0][done] = number
            if behind is not None:
                more[1][half] = behind
            self.assertIs(holds_floor(web, prices, 2, more), expected)

    def test_dicts_left_out_put_in_and_exchanged(self):
        for web, prices, amount, value in self.told(98, 40):
            for place in range(len(value)):
                self.assertIs(holds_floor(web, prices, amount, value[:place] + value[place + 1:]), False)
                self.assertIs(holds_floor(web, prices, amount, value[:place] + [{}] + value[place:]), False)
                for wrong in ({}, None, [], [(front, value[place][front]) for front in value[place]], 0, ((),)):
                    # In the end no front at all tells that there is none.
                    self.assertIs(holds_floor(web, prices, amount, value[:place] + [wrong] + value[place + 1:]), False)
            self.assertIs(holds_floor(web, prices, amount, tuple(value)), False)

    def test_keys_in_another_sequence(self):
        for web, prices, amount, value in self.told(99, 40):
            turned = [{front: sums[front] for front in list(sums)[::-1]} for sums in value]
            self.assertIs(holds_floor(web, prices, amount, turned), True)

    def test_fronts_and_numbers_of_other_kinds(self):
        web, prices = web_of(ladder(2), [((2, False), (1, False))] * 2), [(1, 2)] * 2
        amount, value = fewest(web, prices)[0], floor(web, prices)
        for place, sums in enumerate(value):
            for front in sums:
                rest = {other: sums[other] for other in sums if other != front}
                for wrong in [some for some in no_fronts(front) if not isinstance(some, (list, dict))]:
                    try:
                        exchanged = {**rest, wrong: sums[front]}
                    except TypeError:
                        continue
                    self.assertIs(holds_floor(web, prices, amount, value[:place] + [exchanged] + value[place + 1:]),
                                  False)
                    more = {**sums, wrong: 100}
                    if len(more) > len(sums):
                        self.assertIs(holds_floor(web, prices, amount, value[:place] + [more] + value[place + 1:]),
                                      False)
                for wrong in [None, "0", (), [], {}, True, False]:
                    exchanged = {**sums, front: wrong}
                    self.assertIs(holds_floor(web, prices, amount, value[:place] + [exchanged] + value[place + 1:]),
                                  False)

    def test_values_of_any_kind(self):
        for web, prices, amount, value in self.told(100, 6):
            for wrong in odd_values():
                self.assertIs(holds_floor(web, prices, amount, wrong), False)
                self.assertIs(holds_floor(web, prices, amount, [wrong] * len(value)), False)
                self.assertIs(holds_floor(web, prices, amount, [{wrong: 0}] * len(value)
                                          if isinstance(wrong, (int, str)) else None), False)
            for wrong in NO_AMOUNTS:
                self.assertIs(holds_floor(web, prices, wrong, value), False)

    def test_numbers_below_0_and_great_ones(self):
        web, prices = Web(TWO), [(3,)]
        value = floor(web, prices)
        lower = [{front: sums[front] - GREAT for front in sums} for sums in value]
        self.assertIs(holds_floor(web, prices, 3, lower), False)
        self.assertIs(holds_floor(web, prices, 3 - GREAT, lower), True)
        self.assertIs(holds_floor(web, prices, 4 - GREAT, lower), False)

    def test_it_is_told_anew(self):
        web, prices = Web(TWO * 3), [(1,)] * 3
        before = copied(floor(web, prices))
        told = floor(web, prices)
        for sums in told:
            sums.clear()
        told.clear()
        self.assertEqual(floor(web, prices), before)
        self.assertEqual(floor(web=web, prices=prices), before)


class ErrorsTest(unittest.TestCase):

    def asked(self, web, prices):
        return [lambda: fewest(web, prices), lambda: floor(web, prices), lambda: holds_floor(web, prices, None, None),
                lambda: holds_floor(web, prices, 0, [{}])]

    def test_closed_webs_come_first(self):
        web = Web(TWO * 3, closed=True)
        for prices in [[(1,)] * 3, [(1,)] * 2, None, [], (), {}, 1]:
            for ask in self.asked(web, prices):
                with self.assertRaises(ClosedWeb):
                    ask()

    def test_bad_prices(self):
        for width in (1, 2, 3):
            web = web_of(ladder(width), [((1, False),) * width, ((0, True),) * width])
            for value in no_prices_for([(0,) * width, (1000,) * width], width):
                for ask in self.asked(web, value):
                    with self.assertRaises(BadPrices) as caught:
                        ask()
                    self.assertIs(caught.exception.value, value)

    def test_a_refused_call_changes_nothing(self):
        web, prices = Web(TWO * 2), [(1,), [1]]
        before = shape_of_web(web, prices)
        for ask in self.asked(web, prices):
            with self.assertRaises(BadPrices):
                ask()
        self.assertEqual(shape_of_web(web, prices), before)

    def test_all_small_paths(self):
        cells = [(0, False), (1, False), (2, False), (9, False), (1, True)]
        for many in (1, 2, 3):
            for line in itertools.product(cells, repeat=many):
                for price in (1, None):
                    columns, prices = [(cell,) for cell in line], [(price,)] + [(1,)] * (many - 1)
                    told = fewest(Web(Stretch(PATH, columns)), prices)
                    self.assertEqual(None if told is None else told[0], plain_fewest(PATH, columns, prices))


if __name__ == "__main__":
    unittest.main()
