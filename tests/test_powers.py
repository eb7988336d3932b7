"""Point 13: powers, the least ones, and the table of a stretch so many times."""

import random
import unittest

from sparkrows.errors import BadTimes, NoColumns
from sparkrows.frames import Frame, Stretch
from sparkrows.powers import is_powers, power, powers
from sparkrows.tables import Table, table_of
from tests import families
from tests.helpers import (GREAT, is_plain_integer, ladder, odd_values, plain_entries, random_frame, random_stretch,
                           shape_of)

PATH = Frame(1, outer=[(0, 0)])
CROSSED = Frame(2, outer=[(0, 1), (1, 0)])
ONE, TWO, SPARK = [Stretch(PATH, [(cell,)]) for cell in ((1, False), (2, False), (0, True))]
TURNING = Stretch(CROSSED, [((1, False), (1, False))])
# What goes along here is worn off row by row, so the powers start late.
LATE = Stretch(Frame(3, outer=[(0, 0), (0, 1), (1, 1), (1, 2), (2, 2)]), [((2, False), (2, False), (2, False))])


def random_stretches(seed, many):
    chance = random.Random(seed)
    return [random_stretch(chance, random_frame(chance), starters=chance.choice([0, 0.05, 0.2])) for _ in range(many)]


def plain_powers(stretch):
    """The tables of the stretch once, twice, .. as long as they are unlike those before."""
    found = []
    for times in range(1, 40):
        table = table_of(stretch * times)
        for place, before in enumerate(found):
            if before == table:
                return place, len(found) - place, found
        found.append(table)
    raise AssertionError("no table came again")


def plain_is_powers(stretch, start, period, tables):
    """The words of the point, for numbers and a list of tables of one width."""
    if start < 0 or period < 1 or len(tables) != start + period or not tables[0] == table_of(stretch):
        return False
    for one, other in zip(tables, tables[1:]):
        if not one + tables[0] == other:
            return False
    return tables[-1] + tables[0] == tables[start]


class PowersTest(unittest.TestCase):

    def test_by_hand(self):
        self.assertEqual(powers(TWO), (1, 1, [table_of(TWO), table_of(TWO * 2)]))
        self.assertEqual(powers(TURNING), (0, 2, [table_of(TURNING), table_of(TURNING * 2)]))
        self.assertEqual(powers(stretch=ONE), (0, 1, [table_of(ONE)]))
        self.assertEqual([repr(number) for number in powers(LATE)[:2]], ["3", "1"])
        self.assertEqual([powers(stretch)[:2] for stretch in families.LATE],
                         [(4, 1), (4, 1), (5, 1), (5, 1), (6, 1), (7, 1), (7, 1), (8, 1), (2, 2), (3, 2)])

    def test_as_the_tables_of_longer_and_longer_stretches(self):
        for stretch in random_stretches(31, 80) + families.LATE + [ONE, TWO, SPARK, TURNING, LATE, LATE * 2]:
            before = shape_of(stretch)
            told = powers(stretch)
            self.assertIs(type(told), tuple)
            self.assertIs(type(told[2]), list)
            self.assertEqual(told, plain_powers(stretch))
            self.assertEqual(shape_of(stretch), before)

    def test_all_tables_are_unlike(self):
        for stretch in random_stretches(32, 100):
            start, period, tables = powers(stretch)
            self.assertEqual(len(tables), start + period)
            for place, table in enumerate(tables):
                self.assertEqual([other for other in tables[:place] if other == table], [])

    def test_they_are_told_anew(self):
        powers(TWO)[2].clear()
        powers(TWO)[2][0] = None
        self.assertEqual(powers(TWO)[2], [table_of(TWO), table_of(TWO * 2)])

    def test_twenty_columns(self):
        stretch = random_stretch(random.Random(33), ladder(3), 20, 20)
        start, period, tables = powers(stretch)
        self.assertEqual(tables[0].entries(), plain_entries(stretch))
        self.assertTrue(is_powers(stretch, start, period, tables))

    def test_no_columns(self):
        for width in (1, 2, 3):
            with self.assertRaises(NoColumns):
                powers(Stretch(ladder(width), []))


class IsPowersTest(unittest.TestCase):

    def test_the_least_ones(self):
        for stretch in random_stretches(34, 100) + [ONE, TWO, TURNING, LATE]:
            self.assertIs(is_powers(stretch, *powers(stretch)), True)

    def test_a_later_start_and_a_period_told_more_than_once(self):
        for stretch in random_stretches(35, 40) + [ONE, TWO, TURNING, LATE]:
            start, period, tables = powers(stretch)
            longer = [table_of(stretch * times) for times in range(1, start + 3 * period + 2)]
            self.assertIs(is_powers(stretch, start, 2 * period, longer[:start + 2 * period]), True)
            self.assertIs(is_powers(stretch, start, 3 * period, longer[:start + 3 * period]), True)
            self.assertIs(is_powers(stretch, start + 1, period, longer[:start + period + 1]), True)
            self.assertIs(is_powers(stretch, start + period, period, longer[:start + 2 * period]), True)
            self.assertIs(is_powers(stretch, start + 1, 2 * period, longer[:start + 2 * period + 1]), True)
            self.assertIs(is_powers(stretch=stretch, start=start, period=period, tables=tables), True)

    def test_shifted_numbers(self):
        for stretch in random_stretches(36, 8) + [ONE, TWO, TURNING, LATE]:
            start, period, tables = powers(stretch)
            longer = [table_of(stretch * times) for times in range(1, start + 2 * period + 3)]
            for begin in range(-2, start + 3):
                for turn in range(-2, 2 * period + 2):
                    for many in range(start + 2 * period + 2):
                        handed = longer[:many]
                        self.assertIs(is_powers(stretch, begin, turn, handed),
                                      plain_is_powers(stretch, begin, turn, handed))
            if start:
                self.assertIs(is_powers(stretch, start - 1, period + 1, tables), False)

    def test_great_numbers(self):
        tables = powers(TWO)[2]
        for start, period in ((GREAT, 1), (1, GREAT), (-GREAT, GREAT + 2), (GREAT, 2 - GREAT), (2 - GREAT, GREAT)):
            self.assertIs(is_powers(TWO, start, period, tables), False)

    def test_tables_left_out_put_in_and_exchanged(self):
        stray = [table_of(stretch) for stretch in (LATE, LATE * 2, Stretch(LATE.frame, [((1, False),) * 3]))]
        for stretch in (LATE, Stretch(LATE.frame, [((1, False), (2, False), (2, False))])):
            start, period, tables = powers(stretch)
            for place in range(len(tables)):
                less = tables[:place] + tables[place + 1:]
                self.assertIs(is_powers(stretch, start, period, less), False)
                self.assertIs(is_powers(stretch, max(start - 1, 0), period, less),
                              plain_is_powers(stretch, max(start - 1, 0), period, less) if less else False)
                for table in tables + stray:
                    for handed, numbers in ((tables[:place] + [table] + tables[place + 1:], (start, period)),
                                            (tables[:place] + [table] + tables[place:], (start + 1, period)),
                                            (tables[:place] + [table] + tables[place:], (start, period + 1)),
                                            (tables[:place] + [table] + tables[place:], (start, period))):
                        self.assertIs(is_powers(stretch, *numbers, handed), plain_is_powers(stretch, *numbers, handed))

    def test_only_the_first_or_the_last_table_is_wrong(self):
        start, period, tables = powers(LATE)
        best = Table(3, {key: ((0, 1, 2), (0, 1, 2), True) for key in tables[0].entries()})
        self.assertIs(is_powers(LATE, start, period, [best] + tables[1:]), False)
        self.assertIs(is_powers(LATE, start, period, tables[:-1] + [best]), False)
        # Powers they are, but those of another stretch.
        self.assertIs(is_powers(LATE, *powers(LATE * 2)), False)
        self.assertIs(is_powers(LATE, 0, 1, [best]), False)

    def test_the_turn_leads_to_the_start(self):
        tables = [table_of(TURNING * times) for times in (1, 2, 3, 4, 5)]
        told = [(start, period) for start in range(5) for period in range(1, 6)
                if is_powers(TURNING, start, period, tables[:start + period])]
        self.assertEqual(told, [(0, 2), (0, 4), (1, 2), (1, 4), (2, 2), (3, 2)])

    def test_bools_are_no_numbers(self):
        start, period, tables = powers(TWO)
        self.assertEqual((start, period), (1, 1))
        self.assertIs(is_powers(TWO, True, 1, tables), False)
        self.assertIs(is_powers(TWO, 1, True, tables), False)
        self.assertIs(is_powers(ONE, False, 1, powers(ONE)[2]), False)
        self.assertIs(is_powers(ONE, 0, True, powers(ONE)[2]), False)
        self.assertIs(is_powers(ONE, 0, 1, powers(ONE)[2]), True)

    def test_values_of_any_kind(self):
        for stretch in (ONE, TWO, TURNING):
            start, period, tables = powers(stretch)
            for value in odd_values():
                if repr(value) != repr(start):
                    self.assertIs(is_powers(stretch, value, period, tables), False)
                if repr(value) != repr(period):
                    self.assertIs(is_powers(stretch, start, value, tables), False)
                self.assertIs(is_powers(stretch, start, period, value), False)
                for place in range(len(tables)):
                    for handed in (tables[:place] + [value] + tables[place + 1:],
                                   tables[:place] + [value] + tables[place:]):
                        self.assertIs(is_powers(stretch, start, period, handed), False)
                        self.assertIs(is_powers(stretch, start + 1, period, handed), False)
                        self.assertIs(is_powers(stretch, start, period + 1, handed), False)
                self.assertIs(is_powers(stretch, value, value, value), False)
            self.assertIs(is_powers(stretch, start, period, tuple(tables)), False)
            self.assertIs(is_powers(stretch, start, period, dict(enumerate(tables))), False)
            self.assertIs(is_powers(stretch, start, period, tables[0]), False)
            self.assertIs(is_powers(stretch, start, period, [table.entries() for table in tables]), False)

    def test_tables_of_other_widths(self):
        others = [table_of(Stretch(ladder(width), [((1, False),) * width])) for width in (1, 2, 3)]
        for table in others[1:]:
            for handed in ([table, table], powers(TWO)[2][:1] + [table], [table] + powers(TWO)[2][1:]):
                self.assertIs(is_powers(TWO, 1, 1, handed), False)

    def test_nothing_is_changed(self):
        start, period, tables = powers(LATE)
        copy, entries = list(tables), [table.entries() for table in tables]
        is_powers(LATE, start, period, tables)
        self.assertEqual((tables, [table.entries() for table in tables]), (copy, entries))

    def test_no_columns_comes_first(self):
        for value in odd_values():
            with self.assertRaises(NoColumns):
                is_powers(Stretch(PATH, []), value, value, value)


class PowerTest(unittest.TestCase):

    def test_small_numbers(self):
        for stretch in random_stretches(37, 30) + [ONE, TWO, TURNING, LATE]:
            for times in range(1, 10):
                self.assertTrue(power(stretch, times) == table_of(stretch * times))
        self.assertTrue(power(stretch=TWO, times=1) == table_of(TWO))

    def test_great_numbers_by_hand(self):
        for times in (10 ** 50, GREAT, 2, 4):
            self.assertTrue(power(TURNING, times) == table_of(TURNING * 2))
            self.assertTrue(power(TURNING, times + 1) == table_of(TURNING))
            self.assertTrue(power(TWO, times) == table_of(TWO * 2))
            self.assertTrue(power(ONE, times) == table_of(ONE))
        self.assertTrue(power(LATE, 10 ** 50) == table_of(LATE * 4))
        self.assertFalse(power(LATE, 10 ** 50) == table_of(LATE * 3))

    def test_great_numbers_by_the_period(self):
        chance = random.Random(38)
        for stretch in random_stretches(39, 60) + [ONE, TWO, TURNING, TURNING * 3, LATE]:
            start, period, tables = powers(stretch)
            for _ in range(4):
                place = chance.randrange(start, start + period)
                turns = chance.randrange(10 ** 50)
                self.assertTrue(power(stretch, place + 1 + turns * period) == tables[place])

    def test_no_number_of_times(self):
        values = [value for value in odd_values() if not (is_plain_integer(value) and value >= 1)]
        self.assertIn(0, values)
        for value in values + [[1], (1,), "1"]:
            for stretch in (TWO, TURNING):
                with self.assertRaises(BadTimes) as caught:
                    power(stretch, value)
                self.assertIs(caught.exception.value, value)

    def test_no_columns_comes_first(self):
        for value in odd_values():
            with self.assertRaises(NoColumns):
                power(Stretch(TURNING.frame, []), value)


if __name__ == "__main__":
    unittest.main()
