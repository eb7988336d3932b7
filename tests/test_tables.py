"""Points 10, 11 and 12: sides, tables, tables put together, rings, the form of a table."""

import itertools
import random
import unittest

from sparkrows.errors import BadTable, BadWidth, NoColumns, OtherFrame
from sparkrows.frames import Frame, Stretch, Web, mirrored
from sparkrows.tables import Table, column_rows, sides, table_of
from tests.helpers import (held, is_plain_integer, ladder, odd_values, plain_between, plain_entries, plain_pairs,
                           plain_rows, plain_sides, random_frame, random_stretch, shape_of, web_of)

ONE_SIDES = [(), (0,)]
ONE_KEYS = list(itertools.product(ONE_SIDES, ONE_SIDES))
ONE_ENTRIES = list(itertools.product(ONE_SIDES, ONE_SIDES, [False, True]))


def no_widths():
    return [value for value in odd_values() if not (is_plain_integer(value) and 1 <= value <= 3)]


def within(less, more):
    return set(less[0]) <= set(more[0]) and set(less[1]) <= set(more[1]) and (more[2] or not less[2])


def is_form(entries):
    """Whether entries of the right keys and kinds never fall, key by key for all keys."""
    return all(within(entries[one], entries[other]) for one in entries for other in entries
               if set(one[0]) <= set(other[0]) and set(one[1]) <= set(other[1]))


def random_entries(chance, width):
    """The entries of a table that need not be that of a stretch."""
    drawn = {key: (chance.choice(plain_sides(width)), chance.choice(plain_sides(width)), chance.random() < 0.1)
             if chance.random() < 0.4 else ((), (), False) for key in plain_pairs(width)}
    entries = {}
    for key in drawn:
        below = [drawn[less] for less in drawn if set(less[0]) <= set(key[0]) and set(less[1]) <= set(key[1])]
        entries[key] = (tuple(sorted({row for first, _, _ in below for row in first})),
                        tuple(sorted({row for _, last, _ in below for row in last})),
                        any(full for _, _, full in below))
    return entries


def plain_joined(one, other):
    """The entries of two tables put together: both are asked at once until nothing changes."""
    found = {}
    for left, right in one:
        last, first = (), ()
        for _ in range(10):
            last, first = one[left, first][1], other[last, right][0]
        ahead, behind = one[left, first], other[last, right]
        found[left, right] = (ahead[0], behind[1], ahead[2] and behind[2])
    return found


def plain_ring(entries):
    left, right = (), ()
    for _ in range(10):
        right, left, _ = entries[left, right]
    return entries[left, right]


def stretches(seed, many, **bounds):
    chance = random.Random(seed)
    return [random_stretch(chance, random_frame(chance), **bounds) for _ in range(many)]


class SidesTest(unittest.TestCase):

    def test_each_width(self):
        self.assertEqual(sides(1), [(), (0,)])
        self.assertEqual(sides(2), [(), (0,), (0, 1), (1,)])
        self.assertEqual(sides(width=3), [(), (0,), (0, 1), (0, 1, 2), (0, 2), (1,), (1, 2), (2,)])
        for width in (1, 2, 3):
            self.assertEqual(sides(width), sorted(plain_sides(width)))
            self.assertIs(type(sides(width)), list)

    def test_they_are_told_anew(self):
        sides(2).append("more")
        sides(2)[0] = "less"
        self.assertEqual(sides(2), [(), (0,), (0, 1), (1,)])

    def test_no_width(self):
        for value in no_widths():
            with self.assertRaises(BadWidth) as caught:
                sides(value)
            self.assertIs(caught.exception.value, value)


class FormTest(unittest.TestCase):

    def refused(self, width, entries):
        with self.assertRaises(BadTable) as caught:
            Table(width, entries)
        self.assertIs(caught.exception.value, entries)

    def test_all_there_could_be_of_width_one(self):
        taken = 0
        for entries in itertools.product(ONE_ENTRIES, repeat=4):
            entries = dict(zip(ONE_KEYS, entries))
            if is_form(entries):
                self.assertEqual(Table(1, entries).entries(), entries)
                taken += 1
            else:
                self.refused(1, entries)
        # For first, last and full there are as many as there are ways to rise from no side to both.
        self.assertEqual(taken, 6 ** 3)

    def test_no_width_comes_first(self):
        good = {key: ((), (), False) for key in plain_pairs(1)}
        for value in no_widths():
            for entries in (good, {}, None, value):
                with self.assertRaises(BadWidth) as caught:
                    Table(value, entries)
                self.assertIs(caught.exception.value, value)

    def test_values_of_any_kind(self):
        for width in (1, 2, 3):
            for value in odd_values() + [plain_pairs(width), {key: None for key in plain_pairs(width)}]:
                self.refused(width, value)

    def test_the_table_of_another_width(self):
        for width, other in itertools.permutations((1, 2, 3), 2):
            self.refused(width, {key: ((), (), False) for key in plain_pairs(other)})

    def test_keys_left_out_put_in_and_exchanged(self):
        for width in (1, 2, 3):
            good = {key: ((), (), False) for key in plain_pairs(width)}
            top = tuple(range(width))
            self.assertEqual(Table(width, good).entries(), good)
            wrong = [value for value in odd_values() if isinstance(value, (int, str, type(None)))]
            wrong += [((), (width,)), ((-1,), ()), ((0, 0), ()), ((), (1, 0)), ((), (), ()), ((),), ((), None),
                      (None, ()), ((), "0"), ((), 0), ((None,), ()), (("0",), ()), (((0,),), ())]
            for key in good:
                less = {other: good[other] for other in good if other != key}
                self.refused(width, less)
                for value in wrong:
                    self.refused(width, {**less, value: good[key]})
            for value in wrong + [top, ()]:
                self.refused(width, {**good, value: ((), (), False)})

    def test_bools_as_rows_of_keys(self):
        for width in (1, 2, 3):
            for left, right in plain_pairs(width):
                for wrong in ((tuple(bool(row) for row in left), right), (left, tuple(bool(row) for row in right))):
                    # Other rows than 0 and 1 are not equal to a bool, so just these stay as good as they are.
                    if repr(wrong) == repr((left, right)) or 2 in left + right:
                        continue
                    entries = {key: ((), (), False) for key in plain_pairs(width) if key != wrong}
                    entries[wrong] = ((), (), False)
                    self.refused(width, entries)

    def test_entries_of_wrong_kinds(self):
        for width in (1, 2, 3):
            good = {key: ((), (), False) for key in plain_pairs(width)}
            top = (tuple(range(width)), tuple(range(width)))
            side = top[0]
            wrong = odd_values() + [
                [(), (), False],
                ((), (), 0), ((), (), 1), ((), (), None), ((), (), "True"), ((), ()), ((), (), False, ()),
                ([], (), False), ((), [], False), ((), {}, False), (None, (), True), ((), None, True), ("", "", True),
                ((width,), (), True), ((), (width,), True), ((-1,), (), True), ((), (0, 0), True), ((0, 0), (), True),
                (side[::-1] + (0,), (), True), ((), (1, 0), True), ((2, 1), (), True), ((False,), (), True),
                ((), (False,), True), ((True,), (), True), ((), (0, True), True), ((None,), (), True), (0, 0, True),
                ((), ([0],), True), (((0,),), (), True), (("0",), (), True), (False, (), ()), ((), False, ()),
            ]
            for key in good:
                for value in wrong:
                    self.refused(width, {**good, key: value})
            for value in ((side, (), False), ((), side, False), ((), (), True), (side, side, True)):
                self.assertEqual(Table(width, {**good, top: value})[top], value)

    def test_entries_that_fall(self):
        for width in (1, 2, 3):
            good = {key: ((), (), False) for key in plain_pairs(width)}
            full = tuple(range(width))
            best = {key: (full, full, True) for key in plain_pairs(width)}
            for key in good:
                for value in (((0,), (), False), ((), (full[-1],), False), ((), (), True), (full, full, True)):
                    if key != (full, full):
                        self.refused(width, {**good, key: value})
                for value in ((full[1:], full, True), (full, full[:-1], True), (full, full, False), ((), (), False)):
                    if key != ((), ()):
                        self.refused(width, {**best, key: value})
                    else:
                        self.assertEqual(Table(width, {**best, key: value}).entries(), {**best, key: value})

    def test_rows_kept_but_exchanged(self):
        # As many rows as before are not enough: each single one is kept.
        entries = {key: ((0,), (), False) for key in plain_pairs(2)}
        entries[(0, 1), (0, 1)] = ((1,), (), False)
        self.refused(2, entries)
        entries = {key: ((), (0, 1), False) for key in plain_pairs(3)}
        entries[(0, 1, 2), (0, 1, 2)] = ((), (0, 2), False)
        self.refused(3, entries)

    def test_one_entry_exchanged(self):
        chance = random.Random(11)
        seen = [0, 0]
        for _ in range(400):
            width = chance.randint(1, 3)
            entries = random_entries(chance, width)
            self.assertEqual(Table(width, entries).entries(), entries)
            key = chance.choice(plain_pairs(width))
            entries[key] = (chance.choice(plain_sides(width)), chance.choice(plain_sides(width)),
                            chance.random() < 0.5)
            seen[is_form(entries)] += 1
            if is_form(entries):
                self.assertEqual(Table(width, entries).entries(), entries)
            else:
                self.refused(width, entries)
        self.assertGreater(min(seen), 50)


class TableTest(unittest.TestCase):

    def test_what_it_tells(self):
        chance = random.Random(12)
        for width in (1, 2, 3):
            entries = random_entries(chance, width)
            table = Table(width=width, entries=entries)
            self.assertEqual(repr(table.width), repr(width))
            self.assertEqual(table.entries(), entries)
            for left, right in entries:
                self.assertEqual(table[left, right], entries[left, right])
                self.assertEqual(table[(left, right)], entries[left, right])

    def test_what_was_handed_in_is_copied(self):
        entries = {key: ((), (), False) for key in plain_pairs(2)}
        before = dict(entries)
        table = Table(2, entries)
        entries[(0,), ()] = ((0,), (0,), True)
        del entries[(), ()]
        entries["more"] = 1
        self.assertEqual(table.entries(), before)
        self.assertEqual(table[(0,), ()], ((), (), False))

    def test_entries_are_told_anew(self):
        table = table_of(Stretch(ladder(2), [((1, False), (1, True))]))
        before = table.entries()
        self.assertIsNot(table.entries(), before)
        table.entries().clear()
        table.entries()[(), ()] = None
        self.assertEqual(table.entries(), before)
        self.assertEqual(table[(), ()], before[(), ()])

    def test_equality(self):
        chance = random.Random(13)
        for _ in range(60):
            width = chance.randint(1, 3)
            entries, others = random_entries(chance, width), random_entries(chance, width)
            turned = {key: entries[key] for key in list(entries)[::-1]}
            table = Table(width, entries)
            self.assertTrue(table == Table(width, turned))
            self.assertFalse(table != Table(width, turned))
            self.assertIs(table == Table(width, others), entries == others)
            self.assertIs(table != Table(width, others), entries != others)

    def test_one_unlike_entry(self):
        good = {key: ((), (), False) for key in plain_pairs(2)}
        top = ((0, 1), (0, 1))
        for value in (((0,), (), False), ((), (1,), False), ((), (), True)):
            self.assertFalse(Table(2, good) == Table(2, {**good, top: value}))

    def test_equality_with_other_values(self):
        for width in (1, 2, 3):
            entries = {key: ((), (), False) for key in plain_pairs(width)}
            table = Table(width, entries)
            others = odd_values() + [entries, table.entries(), width, (width, entries), ladder(width), object(),
                                     Stretch(ladder(width), [])]
            others += [Table(w, {key: ((), (), False) for key in plain_pairs(w)}) for w in (1, 2, 3) if w != width]
            for value in others:
                self.assertIs(table == value, False)
                self.assertIs(value == table, False)
                self.assertIs(table != value, True)


class ColumnRowsTest(unittest.TestCase):

    def test_by_hand(self):
        frame = Frame(3, inner=[(0, 1)], outer=[(0, 0), (0, 2), (2, 0)])
        column = ((1, False), (1, False), (2, False))
        self.assertEqual(column_rows(frame, column, (), ()), ())
        self.assertEqual(column_rows(frame, column, (0,), ()), (0, 1))
        self.assertEqual(column_rows(frame, column, (0,), (0,)), (0, 1, 2))
        self.assertEqual(column_rows(frame, column, (), (0,)), (0, 1))
        self.assertEqual(column_rows(frame, column, (1,), (1,)), ())
        self.assertEqual(column_rows(frame=frame, column=column, left=(2,), right=(2,)), (0, 1))

    def test_seats_that_start_and_seats_that_need_nobody(self):
        frame = Frame(3, inner=[(0, 2)])
        self.assertEqual(column_rows(frame, ((9, True), (0, False), (9, False)), (), ()), (0, 1))
        self.assertEqual(column_rows(frame, ((0, False), (9, False), (1, False)), (), ()), (0, 2))

    def test_a_chain_against_the_order_of_the_rows(self):
        self.assertEqual(column_rows(ladder(3), ((1, False), (1, False), (1, True)), (), ()), (0, 1, 2))

    def test_between_all_sides(self):
        for stretch in stretches(14, 150, most=1):
            before = shape_of(stretch)
            column = stretch.columns[0]
            for left, right in plain_pairs(stretch.frame.width):
                self.assertEqual(column_rows(stretch.frame, column, left, right),
                                 plain_between(stretch, left, right)[0])
            self.assertEqual(shape_of(stretch), before)


class TableOfTest(unittest.TestCase):

    def test_by_hand(self):
        # A path of one that needs one, and one that needs two.
        path = Frame(1, outer=[(0, 0)])
        table = table_of(stretch=Stretch(path, [((1, False),), ((2, False),)]))
        self.assertEqual(table.entries(), {((), ()): ((), (), False), ((), (0,)): ((), (), False),
                                           ((0,), ()): ((0,), (), False), ((0,), (0,)): ((0,), (0,), True)})

    def test_full_asks_each_column(self):
        path = Frame(1, outer=[(0, 0)])
        cells = [((0, True),), ((9, False),), ((0, True),)]
        self.assertEqual(table_of(Stretch(path, cells))[(), ()], ((0,), (0,), False))
        self.assertEqual(table_of(Stretch(path, cells[::2]))[(), ()], ((0,), (0,), True))

    def test_one_column(self):
        for stretch in stretches(15, 150, most=1):
            table = table_of(stretch)
            self.assertEqual(table.width, stretch.frame.width)
            self.assertEqual(table.entries(), plain_entries(stretch))

    def test_several_columns(self):
        for stretch in stretches(16, 120, least=2, most=5):
            before = shape_of(stretch)
            self.assertEqual(table_of(stretch).entries(), plain_entries(stretch))
            self.assertEqual(shape_of(stretch), before)

    def test_twenty_columns(self):
        for stretch in stretches(17, 4, least=20, most=20):
            self.assertEqual(table_of(stretch).entries(), plain_entries(stretch))

    def test_a_way_there_and_back(self):
        # The spark goes along row 0, turns at the far end, and comes back along row 1.
        columns = [((1, False), (1, False))] * 19 + [((1, False), (1, False))]
        frame = Frame(2, inner=[], outer=[(0, 0), (1, 1)])
        self.assertEqual(table_of(Stretch(frame, columns))[(0,), ()], ((0,), (0,), False))
        turned = Stretch(ladder(2), [((1, False), (2, False))] * 19 + [((1, False), (1, False))])
        self.assertEqual(table_of(turned)[(0,), ()], ((0, 1), (0, 1), True))

    def test_the_form_holds(self):
        for stretch in stretches(18, 40):
            table = table_of(stretch)
            self.assertTrue(is_form(table.entries()))
            self.assertTrue(table == Table(stretch.frame.width, table.entries()))

    def test_no_columns(self):
        for width in (1, 2, 3):
            with self.assertRaises(NoColumns):
                table_of(Stretch(ladder(width), []))


class TogetherTest(unittest.TestCase):

    def test_as_the_stretches_put_together(self):
        chance = random.Random(19)
        for _ in range(150):
            frame = random_frame(chance)
            one, other = random_stretch(chance, frame), random_stretch(chance, frame)
            first, second = table_of(one), table_of(other)
            before = (first.entries(), second.entries())
            self.assertTrue(first + second == table_of(one + other))
            self.assertEqual((first.entries(), second.entries()), before)

    def test_by_what_each_tells_the_other(self):
        chance = random.Random(20)
        for _ in range(120):
            width = chance.randint(1, 3)
            one, other = random_entries(chance, width), random_entries(chance, width)
            both = Table(width, one) + Table(width, other)
            self.assertIs(type(both), Table)
            self.assertEqual((both.width, both.entries()), (width, plain_joined(one, other)))

    def test_full_asks_both(self):
        path = Frame(1, outer=[(0, 0)])
        spark, never = table_of(Stretch(path, [((0, True),)])), table_of(Stretch(path, [((9, False),)]))
        fulls = [(one + other)[(), ()][2] for one in (spark, never) for other in (spark, never)]
        self.assertEqual(fulls, [True, False, False, False])

    def test_other_widths(self):
        tables = [table_of(Stretch(ladder(width), [((1, False),) * width])) for width in (1, 2, 3)]
        for one, other in itertools.permutations(tables, 2):
            with self.assertRaises(OtherFrame):
                one + other

    def test_frames_of_one_width(self):
        # A table does not know its frame, so unlike frames of one width can be put together.
        one = table_of(Stretch(Frame(1), [((1, False),)]))
        other = table_of(Stretch(Frame(1, outer=[(0, 0)]), [((1, False),)]))
        self.assertEqual((one + other)[(), (0,)], ((), (0,), False))


class MirroredTest(unittest.TestCase):

    def test_as_of_the_mirrored_stretch(self):
        for stretch in stretches(21, 120):
            table = table_of(stretch)
            before = table.entries()
            self.assertTrue(table.mirrored() == table_of(mirrored(stretch)))
            self.assertEqual(table.entries(), before)

    def test_entry_by_entry(self):
        chance = random.Random(22)
        for _ in range(60):
            width = chance.randint(1, 3)
            entries = random_entries(chance, width)
            turned = Table(width, entries).mirrored()
            self.assertEqual(turned.width, width)
            for left, right in entries:
                first, last, full = entries[left, right]
                self.assertEqual(turned[right, left], (last, first, full))
            self.assertTrue(turned.mirrored() == Table(width, entries))


class RingTest(unittest.TestCase):

    def test_as_in_the_closed_web(self):
        for stretch in stretches(23, 200, least=3, most=6):
            rows = plain_rows(Web(stretch, closed=True))
            full = all(len(side) == stretch.frame.width for side in rows)
            self.assertEqual(table_of(stretch).ring(), (rows[0], rows[-1], full))

    def test_by_what_its_own_ends_tell(self):
        chance = random.Random(24)
        for _ in range(150):
            width = chance.randint(1, 3)
            entries = random_entries(chance, width)
            table = Table(width, entries)
            self.assertEqual(table.ring(), plain_ring(entries))
            self.assertEqual(table.entries(), entries)

    def test_by_hand(self):
        path = Frame(1, outer=[(0, 0)])
        line = [((1, False),), ((0, True),), ((1, False),), ((2, False),)]
        self.assertEqual(table_of(Stretch(path, line)).ring(), ((0,), (0,), True))
        self.assertEqual(table_of(Stretch(path, line))[(), ()], ((0,), (), False))
        self.assertEqual(table_of(Stretch(path, [((1, False),)] * 3)).ring(), ((), (), False))


class HelpersTest(unittest.TestCase):

    def test_what_is_held_stays(self):
        for stretch in stretches(25, 30):
            frame = stretch.frame
            for left, right in plain_pairs(frame.width):
                rows = plain_rows(web_of(frame, [held(frame, left), *stretch.columns, held(frame, right)]))
                self.assertEqual((rows[0], rows[-1]), (left, right))


if __name__ == "__main__":
    unittest.main()
