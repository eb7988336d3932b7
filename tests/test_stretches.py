"""Points 5 and 7: stretches and mirrored stretches."""

import itertools
import unittest

from sparkrows.errors import BadColumn, BadColumns, OtherFrame
from sparkrows.frames import Frame, Stretch, Web, mirrored
from tests.helpers import ladder, odd_values

TWO = ladder(2)
A, B, C = ((1, True), (2, False)), ((0, False), (9, False)), ((3, False), (3, True))


class StretchTest(unittest.TestCase):

    def test_none_one_and_several_columns(self):
        for columns in ([], [A], [A, B], [A, B, A, C], [B] * 20):
            for handed in (columns, tuple(columns)):
                stretch = Stretch(TWO, handed)
                self.assertEqual((stretch.columns, len(stretch), stretch.frame), (columns, len(columns), TWO))
                self.assertIs(type(stretch.columns), list)
        self.assertEqual(Stretch(frame=TWO, columns=[A]).columns, [A])

    def test_columns_are_new_each_time(self):
        stretch = Stretch(TWO, [A, B])
        stretch.columns.append(C)
        stretch.columns[0] = C
        self.assertEqual((stretch.columns, len(stretch)), ([A, B], 2))
        self.assertIsNot(stretch.columns, stretch.columns)

    def test_what_was_handed_in_is_copied(self):
        columns = [A, B]
        stretch = Stretch(TWO, columns)
        columns[0] = C
        columns.append(A)
        self.assertEqual(stretch.columns, [A, B])

    def test_columns_cannot_be_assigned(self):
        with self.assertRaises(AttributeError):
            Stretch(TWO, [A]).columns = [B]

    def test_no_list_of_columns(self):
        for value in odd_values():
            if isinstance(value, (list, tuple)):
                continue
            with self.assertRaises(BadColumns) as caught:
                Stretch(TWO, value)
            self.assertIs(caught.exception.value, value)

    def test_the_first_that_is_no_column(self):
        for value in odd_values() + [list(A), A + A[:1], A[:1], A[0], (A,), ((1, True), (2, 0)), ((True, True), A[0])]:
            for place in range(3):
                columns = [A, B, C]
                columns[place] = value
                columns.append("worse")
                for handed in (columns, tuple(columns)):
                    with self.assertRaises(BadColumn) as caught:
                        Stretch(TWO, handed)
                    self.assertEqual(repr(caught.exception.number), repr(place))

    def test_columns_of_another_width(self):
        for width in (1, 3):
            with self.assertRaises(BadColumn) as caught:
                Stretch(Frame(width), [A])
            self.assertEqual(caught.exception.number, 0)

    def test_equality(self):
        stretch = Stretch(TWO, [A, B])
        self.assertTrue(stretch == Stretch(ladder(2), (A, B)))
        self.assertFalse(stretch != Stretch(ladder(2), (A, B)))
        self.assertTrue(Stretch(TWO, []) == Stretch(TWO, ()))
        for other in (Stretch(TWO, [B, A]), Stretch(TWO, [A]), Stretch(TWO, [A, B, B]), Stretch(TWO, []),
                      Stretch(Frame(2), [A, B])):
            self.assertFalse(stretch == other)
            self.assertTrue(stretch != other)
        self.assertFalse(Stretch(TWO, []) == Stretch(Frame(2), []))

    def test_no_other_value_is_equal(self):
        stretch, empty = Stretch(TWO, [A]), Stretch(TWO, [])
        for value in odd_values() + [[A], (A,), TWO, Web(stretch)]:
            self.assertIs(stretch == value, False)
            self.assertIs(empty == value, False)
            self.assertIs(stretch != value, True)

    def test_one_behind_the_other(self):
        one, other, none = Stretch(TWO, [A, B]), Stretch(TWO, [C]), Stretch(TWO, [])
        self.assertEqual(one + other, Stretch(TWO, [A, B, C]))
        self.assertEqual(other + one, Stretch(TWO, [C, A, B]))
        self.assertEqual(one + none, one)
        self.assertEqual(none + one, one)
        self.assertEqual((none + none).columns, [])
        self.assertEqual((one.columns, other.columns, none.columns), ([A, B], [C], []))
        self.assertEqual((one + other).frame, TWO)

    def test_unlike_frames(self):
        others = [Frame(2), ladder(1), ladder(3), Frame(2, inner=[(0, 1)], outer=[(0, 0)])]
        for frame in others:
            column = ((1, True),) * frame.width
            for one, other in itertools.permutations([Stretch(TWO, [A]), Stretch(frame, [column])]):
                with self.assertRaises(OtherFrame):
                    one + other
            with self.assertRaises(OtherFrame):
                Stretch(TWO, []) + Stretch(frame, [])

    def test_so_many_times(self):
        stretch = Stretch(TWO, [A, B])
        for times in (0, 1, 2, 3, 30):
            self.assertEqual((stretch * times).columns, [A, B] * times)
            self.assertEqual((stretch * times).frame, TWO)
        self.assertEqual((Stretch(TWO, []) * 5).columns, [])
        self.assertEqual(stretch.columns, [A, B])
        self.assertIsInstance(stretch * 2 + stretch, Stretch)


class MirroredTest(unittest.TestCase):

    def test_columns_the_other_way_round(self):
        stretch = Stretch(TWO, [A, B, C])
        self.assertEqual(mirrored(stretch), Stretch(TWO, [C, B, A]))
        self.assertEqual(stretch.columns, [A, B, C])
        self.assertEqual(mirrored(stretch=Stretch(TWO, [])).columns, [])

    def test_one_sided_outer_pairs(self):
        frame = Frame(3, inner=[(0, 2)], outer=[(0, 1), (1, 1), (2, 0)])
        column = ((1, True), (2, False), (3, False))
        other = mirrored(Stretch(frame, [column, column[::-1]]))
        self.assertEqual(other.columns, [column[::-1], column])
        self.assertEqual((other.frame.width, other.frame.inner), (3, ((0, 2),)))
        self.assertEqual(other.frame.outer, ((0, 2), (1, 0), (1, 1)))

    def test_twice_is_as_before(self):
        frame = Frame(2, outer=[(0, 1)])
        stretch = Stretch(frame, [A, B, C])
        self.assertFalse(mirrored(stretch) == Stretch(frame, [C, B, A]))
        self.assertEqual(mirrored(mirrored(stretch)), stretch)

    def test_neighbours_are_mirrored(self):
        stretch = Stretch(Frame(2, inner=[(0, 1)], outer=[(0, 1), (0, 0)]), [A, B, C])
        web, other = Web(stretch), Web(mirrored(stretch))
        for column, row in web.seats():
            near = [(2 - place, line) for place, line in web.neighbours((column, row))]
            self.assertEqual(other.neighbours((2 - column, row)), sorted(near))


if __name__ == "__main__":
    unittest.main()
