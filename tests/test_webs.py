"""Point 5: webs and seats."""

import unittest

from sparkrows.errors import BadCell, BadSeats, NoSeat, TooShort
from sparkrows.frames import Frame, Stretch, Web
from tests.helpers import GREAT, ladder, odd_values, path_web, plain_neighbours, random_webs, shape, web_of

TWO = ladder(2)
A, B, C = ((1, True), (2, False)), ((0, False), (9, False)), ((3, False), (3, True))
NO_SEATS = [(0, 2), (3, 0), (0, -1), (-1, 0), (True, 0), (0, False), (0, True), [0, 0], (0,), (0, 0, 0), (3, 2),
            (GREAT, 0), (0, GREAT), "00", None, 0, ((0, 0),), [(0, 0)]]


def some_webs():
    return [web_of(TWO, [A, B, C]), web_of(TWO, [A, B, C], closed=True)]


class WebTest(unittest.TestCase):

    def test_the_attributes(self):
        stretch = Stretch(TWO, [A, B, C])
        self.assertEqual((Web(stretch).stretch, Web(stretch).closed), (stretch, False))
        ring = Web(stretch=stretch, closed=True)
        self.assertEqual((ring.stretch, ring.closed), (stretch, True))

    def test_closed_is_behind_the_star(self):
        with self.assertRaises(TypeError):
            Web(Stretch(TWO, [A, B, C]), True)

    def test_too_few_columns(self):
        for many in range(5):
            stretch = Stretch(TWO, [A] * many)
            for closed, least in ((False, 1), (True, 3)):
                if many >= least:
                    self.assertEqual(len(Web(stretch, closed=closed).stretch), many)
                    continue
                with self.assertRaises(TooShort) as caught:
                    Web(stretch, closed=closed)
                self.assertEqual(caught.exception.many, many)

    def test_equality(self):
        web, ring = some_webs()
        self.assertTrue(web == web_of(ladder(2), (A, B, C)))
        self.assertFalse(web != web_of(ladder(2), (A, B, C)))
        self.assertTrue(ring == web_of(TWO, [A, B, C], closed=True))
        for other in (ring, web_of(TWO, [A, B]), web_of(TWO, [A, C, B]), web_of(Frame(2), [A, B, C])):
            self.assertFalse(web == other)
            self.assertTrue(web != other)

    def test_no_other_value_is_equal(self):
        for web in some_webs():
            for value in odd_values() + [web.stretch, TWO, (web.stretch, web.closed)]:
                self.assertIs(web == value, False)
                self.assertIs(web != value, True)


class SeatsTest(unittest.TestCase):

    def test_seats_ascend(self):
        self.assertEqual(some_webs()[0].seats(), [(0, 0), (0, 1), (1, 0), (1, 1), (2, 0), (2, 1)])
        self.assertEqual(path_web([(1, False)] * 3, closed=True).seats(), [(0, 0), (1, 0), (2, 0)])
        self.assertEqual(web_of(ladder(3), [A + A[:1]]).seats(), [(0, 0), (0, 1), (0, 2)])

    def test_seats_are_new_each_time(self):
        web = some_webs()[0]
        web.seats().clear()
        self.assertEqual(len(web.seats()), 6)

    def test_is_seat_for_any_value(self):
        for web in some_webs():
            seats = web.seats()
            for seat in seats:
                self.assertIs(web.is_seat(seat), True)
            for value in odd_values() + NO_SEATS:
                self.assertIs(web.is_seat(value=value), False, value)

    def test_each_place_around_the_web(self):
        web = web_of(ladder(3), [A + A[:1]] * 2)
        for column in range(-2, 4):
            for row in range(-2, 5):
                self.assertIs(web.is_seat((column, row)), column in (0, 1) and row in (0, 1, 2))

    def test_are_seats(self):
        for web in some_webs():
            for value in ([], [(0, 0)], [(2, 1), (0, 0)], web.seats(), web.seats()[::-1]):
                self.assertIs(web.are_seats(value), True)
                self.assertIs(web.are_seats(value=tuple(value)), False)

    def test_are_no_seats(self):
        for web in some_webs():
            for value in odd_values():
                self.assertIs(web.are_seats(value), value == [], value)
            for value in odd_values() + NO_SEATS:
                self.assertIs(web.are_seats([value]), False, value)
                self.assertIs(web.are_seats([(0, 0), value]), False, value)
                self.assertIs(web.are_seats([value, (0, 0)]), False, value)
            self.assertIs(web.are_seats([(0, 0), (0, 0)]), False)
            self.assertIs(web.are_seats([(0, 0), (1, 0), (0, 0)]), False)
            self.assertIs(web.are_seats({(0, 0): True}), False)

    def test_cells(self):
        for web in some_webs():
            found = [web.cell(seat) for seat in web.seats()]
            self.assertEqual(repr(found), repr([*A, *B, *C]))
            self.assertEqual(web.cell(seat=(1, 1)), (9, False))


class NeighboursTest(unittest.TestCase):

    def test_an_open_path_and_a_ring(self):
        for many in (1, 2, 3, 4, 5):
            web = path_web([(1, False)] * many)
            for place in range(many):
                near = [(k, 0) for k in (place - 1, place + 1) if 0 <= k < many]
                self.assertEqual(web.neighbours((place, 0)), near)
        for many in (3, 4, 5):
            web = path_web([(1, False)] * many, closed=True)
            for place in range(many):
                near = sorted([((place - 1) % many, 0), ((place + 1) % many, 0)])
                self.assertEqual(web.neighbours(seat=(place, 0)), near)

    def test_one_sided_pairs(self):
        frame = Frame(2, outer=[(0, 1)])
        web, ring = web_of(frame, [A] * 3), web_of(frame, [A] * 3, closed=True)
        self.assertEqual([web.neighbours(seat) for seat in web.seats()],
                         [[(1, 1)], [], [(2, 1)], [(0, 0)], [], [(1, 0)]])
        self.assertEqual([ring.neighbours(seat) for seat in ring.seats()],
                         [[(1, 1)], [(2, 0)], [(2, 1)], [(0, 0)], [(0, 1)], [(1, 0)]])

    def test_a_ring_of_three_columns_with_all_pairs(self):
        rows = range(3)
        frame = Frame(3, inner=[(0, 1), (0, 2), (1, 2)], outer=[(a, b) for a in rows for b in rows])
        ring = web_of(frame, [((1, False),) * 3] * 3, closed=True)
        for seat in ring.seats():
            self.assertEqual(ring.neighbours(seat), [other for other in ring.seats() if other != seat])

    def test_eight_neighbours_at_most(self):
        rows = range(3)
        frame = Frame(3, inner=[(0, 1), (0, 2), (1, 2)], outer=[(a, b) for a in rows for b in rows])
        web = web_of(frame, [((9, False),) * 3] * 4)
        self.assertEqual([len(web.neighbours((column, 1))) for column in range(4)], [5, 8, 8, 5])

    def test_by_the_pairs_for_many_webs(self):
        for web in random_webs(1, 200):
            near = plain_neighbours(web)
            for seat in web.seats():
                self.assertEqual(web.neighbours(seat), sorted(near[seat]))


class ChangedTest(unittest.TestCase):

    def test_one_cell(self):
        for web in some_webs():
            before = shape(web)
            other = web.changed((1, 0), (7, True))
            self.assertEqual(other, web_of(TWO, [A, ((7, True), (9, False)), C], closed=web.closed))
            self.assertEqual(web.changed(seat=(2, 1), cell=(3, True)), web)
            self.assertEqual(shape(web), before)

    def test_starters_keep_their_needs(self):
        for web in some_webs():
            before, seats = shape(web), [(1, 1), (0, 0), (0, 1)]
            other = web.with_starters(seats)
            columns = [((1, True), (2, True)), ((0, False), (9, True)), C]
            self.assertEqual(other, web_of(TWO, columns, closed=web.closed))
            self.assertEqual((shape(web), seats), (before, [(1, 1), (0, 0), (0, 1)]))
            self.assertEqual(web.with_starters(seats=[]), web)

    def test_bars(self):
        for web in some_webs():
            before, seats = shape(web), [(2, 1), (0, 0), (1, 1)]
            other = web.with_bars(seats)
            columns = [((9, False), (2, False)), B, ((3, False), (9, False))]
            self.assertEqual(other, web_of(TWO, columns, closed=web.closed))
            self.assertEqual((shape(web), seats), (before, [(2, 1), (0, 0), (1, 1)]))
            self.assertEqual(web.with_bars(seats=[]), web)

    def test_no_seat(self):
        for web in some_webs():
            before = shape(web)
            for value in odd_values() + NO_SEATS:
                calls = [lambda: web.cell(value), lambda: web.neighbours(value),
                         lambda: web.changed(value, (1, True)), lambda: web.changed(value, "cell")]
                for call in calls:
                    with self.assertRaises(NoSeat) as caught:
                        call()
                    self.assertIs(caught.exception.value, value)
            self.assertEqual(shape(web), before)

    def test_no_cell(self):
        for web in some_webs():
            before = shape(web)
            for value in odd_values() + [(10, True), (True, True), (1, 1), [1, True]]:
                with self.assertRaises(BadCell) as caught:
                    web.changed((0, 0), value)
                self.assertIs(caught.exception.value, value)
            self.assertEqual(shape(web), before)

    def test_no_seats(self):
        for web in some_webs():
            before = shape(web)
            wrong = [value for value in odd_values() if value != []]
            wrong += [[value] for value in NO_SEATS] + [((0, 0),), [(0, 0), (0, 0)], [(0, 0), (9, 9)], {(0, 0): 1}]
            for value in wrong:
                for call in (web.with_starters, web.with_bars):
                    with self.assertRaises(BadSeats) as caught:
                        call(value)
                    self.assertIs(caught.exception.value, value)
            self.assertEqual(shape(web), before)


if __name__ == "__main__":
    unittest.main()
