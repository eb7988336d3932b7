"""Points 4 and 5: frames, cells, columns."""

import itertools
import unittest

from sparkrows.errors import BadPairs, BadWidth
from sparkrows.frames import Frame, Stretch, Web, is_cell, is_column
from tests.helpers import GREAT, odd_values


class Like:
    """Equal to everything that asks it."""

    def __eq__(self, other):
        return True


class FrameTest(unittest.TestCase):

    def refuses(self, error, value, *args, **named):
        with self.assertRaises(error) as caught:
            Frame(*args, **named)
        self.assertIs(caught.exception.value, value)

    def test_the_attributes(self):
        for width in (1, 2, 3):
            frame = Frame(width)
            self.assertEqual((frame.width, frame.inner, frame.outer), (width, (), ()))
        frame = Frame(width=3, inner=[(1, 2), (0, 1)], outer=((2, 0), (0, 2), (0, 0)))
        self.assertEqual((frame.width, frame.inner, frame.outer), (3, ((0, 1), (1, 2)), ((0, 0), (0, 2), (2, 0))))

    def test_pairs_in_any_order_as_lists_and_as_tuples(self):
        inner, outer = [(0, 1), (0, 2), (1, 2)], [(0, 1), (1, 0), (2, 2)]
        for some, more in itertools.product(itertools.permutations(inner), itertools.permutations(outer)):
            for kind in (list, tuple):
                frame = Frame(3, inner=kind(some), outer=kind(more))
                self.assertEqual((frame.inner, frame.outer), (tuple(inner), tuple(outer)))

    def test_all_pairs_of_each_width(self):
        for width in (1, 2, 3):
            inner = list(itertools.combinations(range(width), 2))
            outer = list(itertools.product(range(width), repeat=2))
            frame = Frame(width, inner=inner, outer=outer)
            self.assertEqual((frame.inner, frame.outer), (tuple(inner), tuple(outer)))

    def test_pairs_are_behind_the_star(self):
        with self.assertRaises(TypeError):
            Frame(2, [(0, 1)])

    def test_what_was_handed_in_is_copied(self):
        inner, outer = [(1, 2), (0, 1)], [(1, 1), (0, 0)]
        frame = Frame(3, inner=inner, outer=outer)
        self.assertEqual((inner, outer), ([(1, 2), (0, 1)], [(1, 1), (0, 0)]))
        inner.append((0, 2))
        outer.clear()
        self.assertEqual((frame.inner, frame.outer), (((0, 1), (1, 2)), ((0, 0), (1, 1))))

    def test_rows_that_are_neighbours(self):
        frame = Frame(3, inner=[(1, 2), (0, 2)], outer=[(2, 1), (2, 0), (0, 1), (1, 1)])
        self.assertEqual([frame.beside(row) for row in range(3)], [(2,), (2,), (0, 1)])
        self.assertEqual([frame.onward(row) for row in range(3)], [(1,), (1,), (0, 1)])
        self.assertEqual([frame.back(row) for row in range(3)], [(2,), (0, 1, 2), ()])

    def test_the_middle_row_and_a_row_by_name(self):
        frame = Frame(3, inner=[(1, 2), (0, 1)], outer=[(0, 2)])
        self.assertEqual(frame.beside(row=1), (0, 2))
        self.assertEqual((frame.onward(row=0), frame.back(row=2)), ((2,), (0,)))

    def test_a_width_of_one(self):
        path, loose = Frame(1, outer=[(0, 0)]), Frame(1)
        self.assertEqual([path.beside(0), path.onward(0), path.back(0)], [(), (0,), (0,)])
        self.assertEqual([loose.beside(0), loose.onward(0), loose.back(0)], [(), (), ()])

    def test_rows_by_the_pairs_for_every_frame_of_width_two(self):
        some = list(itertools.product(range(2), repeat=2))
        for many in range(5):
            for outer in itertools.combinations(some, many):
                frame = Frame(2, inner=[(0, 1)], outer=outer[::-1])
                for row in range(2):
                    self.assertEqual(frame.beside(row), (1 - row,))
                    self.assertEqual(frame.onward(row), tuple(b for b in range(2) if (row, b) in outer))
                    self.assertEqual(frame.back(row), tuple(a for a in range(2) if (a, row) in outer))

    def test_no_width(self):
        widths = (1, 2, 3)
        for value in odd_values() + [0, 4, -1, GREAT, "1", "2", (1,), [2], None, True, False]:
            if isinstance(value, bool) or value not in widths:
                self.refuses(BadWidth, value, value)

    def test_no_pairs_of_any_kind(self):
        for value in odd_values():
            if value == () or value == []:
                continue
            for name in ("inner", "outer"):
                for width in (1, 2, 3):
                    self.refuses(BadPairs, value, width, **{name: value})

    def test_a_list_with_something_that_is_no_pair(self):
        for value in odd_values():
            for handed in ([value], (value,), [(0, 1), value], [value, (0, 1)]):
                self.refuses(BadPairs, handed, 3, inner=handed)
                self.refuses(BadPairs, handed, 3, outer=handed)

    def test_rows_out_of_bounds(self):
        for width in (1, 2, 3):
            for pair in ((0, width), (width, 0), (-1, 0), (0, -1), (GREAT, GREAT)):
                self.refuses(BadPairs, handed := [pair], width, outer=handed)
            for pair in ((0, width), (width - 1, width), (-1, 0)):
                self.refuses(BadPairs, handed := (pair,), width, inner=handed)

    def test_a_pair_twice(self):
        self.refuses(BadPairs, handed := [(0, 1), (0, 1)], 2, inner=handed)
        self.refuses(BadPairs, handed := ((0, 0), (1, 1), (0, 0)), 2, outer=handed)
        self.assertEqual(Frame(2, outer=[(1, 0), (0, 1)]).outer, ((0, 1), (1, 0)))

    def test_inner_pairs_ascend(self):
        for pair in ((0, 0), (1, 0), (1, 1), (2, 0), (2, 1), (2, 2)):
            self.refuses(BadPairs, handed := [pair], 3, inner=handed)
            self.assertEqual(Frame(3, outer=[pair]).outer, (pair,))
        self.refuses(BadPairs, handed := [(0, 1), (2, 1)], 3, inner=handed)

    def test_bools_and_lists_in_pairs(self):
        for handed in ([(False, True)], [(0, True)], [(False, 1)], [[0, 1]], ((0, 1), [0, 2]), [(0, 1, 2)]):
            self.refuses(BadPairs, handed, 3, inner=handed)
            self.refuses(BadPairs, handed, 3, outer=handed)

    def test_which_error_comes_first(self):
        bad, worse = [(0, 7)], "pairs"
        self.refuses(BadWidth, True, True, inner=bad, outer=worse)
        self.refuses(BadWidth, 4, 4, outer=worse)
        self.refuses(BadPairs, bad, 2, inner=bad, outer=worse)
        self.refuses(BadPairs, worse, 2, inner=[(0, 1)], outer=worse)

    def test_equality(self):
        frame = Frame(2, inner=[(0, 1)], outer=[(0, 0), (1, 1)])
        self.assertTrue(frame == Frame(2, inner=((0, 1),), outer=((1, 1), (0, 0))))
        self.assertFalse(frame != Frame(2, inner=((0, 1),), outer=((1, 1), (0, 0))))
        for other in (Frame(3, inner=[(0, 1)], outer=[(0, 0), (1, 1)]), Frame(2, outer=[(0, 0), (1, 1)]),
                      Frame(2, inner=[(0, 1)], outer=[(0, 0)]), Frame(2, inner=[(0, 1)])):
            self.assertFalse(frame == other)
            self.assertTrue(frame != other)
        self.assertFalse(Frame(2, outer=[(0, 1)]) == Frame(2, outer=[(1, 0)]))

    def test_no_other_value_is_equal(self):
        frame = Frame(1)
        stretch = Stretch(frame, [((1, True),)])
        for value in odd_values() + [(1, (), ()), [1, (), ()], stretch, Web(stretch), Like()]:
            self.assertIs(frame == value, False)
            self.assertIs(frame != value, True)


class CellTest(unittest.TestCase):

    def test_all_cells(self):
        for need in range(10):
            self.assertIs(is_cell((need, True)), True)
            self.assertIs(is_cell(value=(need, False)), True)

    def test_no_cells(self):
        for value in odd_values():
            self.assertIs(is_cell(value), False, value)
        for value in ((-1, False), (10, False), (True, True), (False, False), (1, 1), (1, 0), (1, None), [1, True],
                      (1,), (1, True, True), "1*", (True, 1), ((1, True),), ([1], True), (1, [True]), ("1", True)):
            self.assertIs(is_cell(value), False, value)


class ColumnTest(unittest.TestCase):

    def test_columns_of_each_width(self):
        for width in (1, 2, 3):
            frame = Frame(width)
            for many in range(5):
                self.assertIs(is_column(frame, ((1, True),) * many), many == width)
                self.assertIs(is_column(frame, [(1, True)] * many), False)

    def test_no_columns(self):
        for width in (1, 2, 3):
            frame = Frame(width)
            for value in odd_values():
                self.assertIs(is_column(frame, value), False, value)
                for place in range(width):
                    cells = [(2, False)] * width
                    cells[place] = value
                    self.assertIs(is_column(frame=frame, value=tuple(cells)), False, value)

    def test_a_cell_is_no_column(self):
        self.assertIs(is_column(Frame(2), (1, True)), False)
        self.assertIs(is_column(Frame(1), (1, True)), False)


if __name__ == "__main__":
    unittest.main()
