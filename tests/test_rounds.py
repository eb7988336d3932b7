"""Point 6: moments, and who is won."""

import unittest

from sparkrows.errors import NoSeat
from sparkrows.rounds import all_won, moment, rounds, won
from tests.helpers import (ladder, odd_values, path_web, plain_moments, random_webs, shape, small_webs, web_of)

ONE, TWO, NEVER, ZERO, SPARK = (1, False), (2, False), (9, False), (0, False), (5, True)


class RoundsTest(unittest.TestCase):

    def test_an_open_path(self):
        web = path_web([ONE, ONE, SPARK, ONE, TWO, ONE])
        self.assertEqual(rounds(web), [[(2, 0)], [(1, 0), (3, 0)], [(0, 0)]])
        self.assertEqual(won(web), [(0, 0), (1, 0), (2, 0), (3, 0)])
        self.assertIs(all_won(web), False)

    def test_a_ring(self):
        web = path_web([SPARK, ONE, TWO, ONE, ONE], closed=True)
        self.assertEqual(rounds(web=web), [[(0, 0)], [(1, 0), (4, 0)], [(3, 0)], [(2, 0)]])
        self.assertEqual(won(web=web), web.seats())
        self.assertIs(all_won(web=web), True)

    def test_seats_that_need_nobody_join_at_moment_one(self):
        self.assertEqual(rounds(path_web([ZERO])), [[], [(0, 0)]])
        self.assertEqual(rounds(path_web([ONE, ZERO, NEVER])), [[], [(1, 0)], [(0, 0)]])
        self.assertEqual(rounds(path_web([(0, True), ZERO, ONE])), [[(0, 0)], [(1, 0)], [(2, 0)]])
        self.assertEqual([moment(path_web([ZERO]), (0, 0)), moment(path_web([(0, True)]), (0, 0))], [1, 0])

    def test_seats_that_need_nine_never_join(self):
        web = path_web([SPARK, NEVER, SPARK])
        self.assertEqual(rounds(web), [[(0, 0), (2, 0)]])
        self.assertEqual([moment(web, seat) for seat in web.seats()], [0, None, 0])
        self.assertEqual(rounds(path_web([(9, True)])), [[(0, 0)]])

    def test_nobody_is_won(self):
        for web in (path_web([ONE]), path_web([ONE] * 3, closed=True), web_of(ladder(3), [(ONE, TWO, NEVER)] * 2)):
            self.assertEqual((rounds(web), won(web), all_won(web)), ([], [], False))
            self.assertEqual([moment(web, seat) for seat in web.seats()], [None] * len(web.seats()))

    def test_moment_zero_alone(self):
        web = path_web([SPARK, TWO])
        self.assertEqual((rounds(web), won(web)), ([[(0, 0)]], [(0, 0)]))
        self.assertEqual(rounds(path_web([SPARK, SPARK])), [[(0, 0), (1, 0)]])

    def test_neighbours_of_the_same_moment_do_not_count(self):
        web = path_web([SPARK, ONE, TWO, ONE, SPARK])
        self.assertEqual(rounds(web), [[(0, 0), (4, 0)], [(1, 0), (3, 0)], [(2, 0)]])
        self.assertEqual(rounds(path_web([SPARK, (1, False), (1, False)]))[1], [(1, 0)])

    def test_more_neighbours_than_needed(self):
        web = path_web([SPARK, ONE, SPARK])
        self.assertEqual(rounds(web), [[(0, 0), (2, 0)], [(1, 0)]])

    def test_a_long_walk(self):
        web = web_of(ladder(3), [(SPARK, NEVER, ONE)] + [(ONE, TWO, TWO)] * 19)
        self.assertEqual(rounds(web)[3], [(3, 0)])
        web = path_web([SPARK] + [ONE] * 59)
        self.assertEqual(rounds(web), [[(place, 0)] for place in range(60)])
        self.assertEqual(moment(web, (59, 0)), 59)

    def test_by_a_plain_walk(self):
        for web in small_webs() + random_webs(2, 400):
            before, moments = shape(web), plain_moments(web)
            last = max(moments.values(), default=-1)
            line = [sorted([seat for seat in moments if moments[seat] == k]) for k in range(last + 1)]
            self.assertEqual(rounds(web), line)
            self.assertEqual(won(web), sorted(moments))
            self.assertIs(all_won(web), len(moments) == len(web.seats()))
            for seat in web.seats():
                self.assertEqual(repr(moment(web=web, seat=seat)), repr(moments.get(seat)))
            self.assertEqual(shape(web), before)

    def test_what_is_returned_is_new(self):
        web = path_web([SPARK, ONE])
        rounds(web)[0].clear()
        rounds(web).clear()
        won(web).clear()
        self.assertEqual((rounds(web), won(web)), ([[(0, 0)], [(1, 0)]], [(0, 0), (1, 0)]))

    def test_no_seat(self):
        for web in (path_web([SPARK, ONE]), path_web([ONE] * 3, closed=True)):
            for value in odd_values() + [(0, 1), (3, 0), (True, 0), (0, False), [0, 0], (-1, 0)]:
                with self.assertRaises(NoSeat) as caught:
                    moment(web, value)
                self.assertIs(caught.exception.value, value)


if __name__ == "__main__":
    unittest.main()
