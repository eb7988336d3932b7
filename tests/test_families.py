"""Points 5, 14 and 15: families, their webs, and whether all are won at all sizes."""

import itertools
import random
import unittest

from sparkrows.errors import NoColumns, NoWeb, OtherFrame
from sparkrows.frames import Frame, Stretch, Web
from sparkrows.powers import Family, wins, wins_at
from tests.families import (CROSSED, LOWER, NEVER, NONE, ONE, PATH, SPARK, TURNING, TWO, UPPER, WHEELING, WHEEL_HEAD,
                            WHEEL_TAIL, late_families, no_sizes, plain_web, random_families, random_family,
                            shape_of_family, some_families)
from tests.helpers import GREAT, ladder, odd_values, plain_moments


def plain_answer(family, size):
    web = plain_web(family, size)
    return None if web is None else len(plain_moments(web)) == len(web.seats())


def told(answers, size):
    """What the answers of wins tell of a size."""
    firsts, turn = answers
    return firsts[size] if size < len(firsts) else turn[(size - len(firsts)) % len(turn)]


class FamilyTest(unittest.TestCase):

    def test_parts(self):
        for head, tail, closed in itertools.product((None, NONE, SPARK), (None, NONE, TWO * 2), (False, True)):
            family = Family(body=ONE, head=head, tail=tail, closed=closed)
            self.assertEqual(family.body, ONE)
            self.assertEqual(family.head, NONE if head is None else head)
            self.assertEqual(family.tail, NONE if tail is None else tail)
            self.assertIs(family.closed, closed)
        family = Family(TURNING)
        self.assertEqual((family.head, family.tail), (Stretch(CROSSED, []), Stretch(CROSSED, [])))
        self.assertIs(family.closed, False)

    def test_parts_are_passed_by_name(self):
        for arguments in ((ONE, SPARK), (ONE, None, None), (ONE, SPARK, TWO, True)):
            with self.assertRaises(TypeError):
                Family(*arguments)

    def test_a_frame_that_is_equal(self):
        family = Family(ONE, head=Stretch(Frame(1, outer=((0, 0),)), [((0, True),)]))
        self.assertEqual(family.length(2), 3)

    def test_no_columns_comes_first(self):
        other = Stretch(ladder(2), [((1, False), (1, False))])
        for head, tail in itertools.product((None, SPARK, other), (None, NONE, other)):
            with self.assertRaises(NoColumns):
                Family(NONE, head=head, tail=tail)

    def test_other_frames(self):
        others = [Stretch(ladder(2), [((1, False), (1, False))]), Stretch(ladder(2), []), Stretch(Frame(1), []),
                  Stretch(Frame(1), [((1, False),)])]
        for other in others:
            for parts in ({"head": other}, {"tail": other}, {"head": other, "tail": other},
                          {"head": SPARK, "tail": other}, {"head": other, "tail": SPARK}):
                with self.assertRaises(OtherFrame):
                    Family(ONE, **parts)

    def test_equality(self):
        choices = [(body, head, tail, closed) for body in (ONE, TWO, ONE * 2) for head in (None, SPARK)
                   for tail in (None, SPARK) for closed in (False, True)]
        families = [Family(body, head=head, tail=tail, closed=closed) for body, head, tail, closed in choices]
        again = [Family(body * 1, head=head, tail=tail, closed=closed) for body, head, tail, closed in choices]
        for one, other in itertools.product(range(len(choices)), repeat=2):
            self.assertIs(families[one] == again[other], one == other)
            self.assertIs(families[one] != again[other], one != other)
        self.assertTrue(Family(ONE) == Family(ONE, head=NONE, tail=NONE))

    def test_equality_is_the_same_once_questions_were_asked(self):
        one, other = Family(TURNING, head=LOWER), Family(TURNING, head=LOWER)
        wins(one)
        self.assertTrue(one == other and other == one)

    def test_equality_with_other_values(self):
        family = Family(ONE)
        for value in odd_values() + [ONE, NONE, PATH, Web(ONE), (ONE, NONE, NONE, False), Family(TURNING), object()]:
            self.assertIs(family == value, False)
            self.assertIs(value == family, False)
            self.assertIs(family != value, True)


class SizesTest(unittest.TestCase):

    def test_length(self):
        family = Family(ONE * 3, head=SPARK, tail=TWO * 2)
        self.assertEqual([family.length(size) for size in (0, 1, 2, 10)], [3, 6, 9, 33])
        self.assertEqual(family.length(size=10 ** 50), 3 * 10 ** 50 + 3)
        self.assertEqual([Family(ONE).length(size) for size in (0, 1, GREAT)], [0, 1, GREAT])

    def test_has_and_at(self):
        for family in random_families(41, 60) + some_families():
            before = shape_of_family(family)
            for size in range(6):
                web = plain_web(family, size)
                self.assertIs(family.has(size), web is not None)
                if web is not None:
                    self.assertEqual(family.at(size), web)
            for size in (10 ** 50, GREAT, 3):
                self.assertIs(family.has(size=size), True)
            self.assertEqual(shape_of_family(family), before)

    def test_few_columns(self):
        for head, body, tail in itertools.product(range(4), range(1, 4), range(4)):
            for closed in (False, True):
                family = Family(ONE * body, head=ONE * head, tail=ONE * tail, closed=closed)
                for size in range(5):
                    self.assertIs(family.has(size), head + body * size + tail >= (3 if closed else 1))

    def test_sixty_columns(self):
        family = Family(Stretch(ladder(3), [((1, False),) * 3]))
        self.assertEqual(len(family.at(size=60).stretch), 60)

    def test_the_order_of_the_parts(self):
        family = Family(ONE + TWO, head=SPARK, tail=NEVER)
        self.assertEqual([need for (need, _), in family.at(2).stretch.columns], [0, 1, 2, 1, 2, 9])
        self.assertIs(family.at(2).closed, False)
        self.assertIs(Family(ONE, closed=True).at(3).closed, True)

    def test_no_web(self):
        for family, without in ((Family(ONE), [0]), (Family(ONE, closed=True), [0, 1, 2]),
                                (Family(ONE * 2, closed=True), [0, 1]), (Family(ONE, head=SPARK), []),
                                (Family(ONE, head=SPARK * 9), []), (Family(ONE, tail=SPARK * 9, closed=True), [-2, -6]),
                                (Family(ONE, head=SPARK, tail=SPARK, closed=True), [0])):
            for value in no_sizes() + without:
                self.assertIs(family.has(value), False)
                for ask in (family.at, lambda size: wins_at(family, size)):
                    with self.assertRaises(NoWeb) as caught:
                        ask(value)
                    self.assertIs(caught.exception.value, value)


class WinsTest(unittest.TestCase):

    def test_by_hand(self):
        self.assertEqual(wins(Family(ONE, head=SPARK)), ([], [True]))
        self.assertEqual(wins(Family(ONE)), ([None], [False]))
        self.assertEqual(wins(Family(ONE, head=NEVER)), ([], [False]))
        self.assertEqual(wins(Family(SPARK)), ([None], [True]))
        self.assertEqual(wins(Family(TWO, head=SPARK, tail=SPARK)), ([True, True], [False]))
        self.assertEqual(wins(Family(SPARK, closed=True)), ([None] * 3, [True]))
        self.assertEqual(wins(Family(ONE, closed=True)), ([None] * 3, [False]))
        self.assertEqual(wins(family=Family(SPARK, head=SPARK, closed=True)), ([None] * 2, [True]))

    def test_turns(self):
        # The ring is won just if the spark comes round to the other row.
        self.assertEqual(wins(Family(TURNING, head=LOWER, closed=True)), ([None, None], [True, False]))
        self.assertEqual(wins(Family(TURNING * 2, head=LOWER, closed=True)), ([None], [True]))
        # From both ends on one row each is won, the same one or not.
        self.assertEqual(wins(Family(TURNING, head=LOWER, tail=UPPER)), ([], [False, True]))
        self.assertEqual(wins(Family(TURNING, head=LOWER, tail=LOWER)), ([], [True, False]))
        self.assertEqual(wins(Family(WHEELING, head=WHEEL_HEAD, tail=WHEEL_TAIL, closed=True)),
                         ([None], [False, True, True]))

    def test_late_starts(self):
        family = some_families()[6]
        self.assertEqual(wins(family), ([True] * 5, [False]))

    def test_against_the_webs(self):
        for family in random_families(42, 120) + late_families(45, 60) + some_families():
            before = shape_of_family(family)
            answers = wins(family)
            for size in range(12):
                self.assertIs(told(answers, size), plain_answer(family, size))
                if family.has(size):
                    self.assertIs(wins_at(family, size), plain_answer(family, size))
            self.assertEqual(shape_of_family(family), before)

    def test_they_are_the_shortest_ones(self):
        for family in random_families(43, 150) + late_families(46, 60) + some_families():
            answers = wins(family)
            self.assertIs(type(answers), tuple)
            firsts, turn = answers
            self.assertEqual([type(firsts), type(turn)], [list, list])
            line = [told(answers, size) for size in range(60)]
            shorter = [many for many in range(1, len(turn)) if line[20:60 - many] == line[20 + many:60]]
            self.assertEqual(shorter, [])
            if firsts:
                self.assertIsNot(firsts[-1], turn[-1])
            self.assertNotIn(None, turn)

    def test_they_are_told_anew(self):
        family = Family(TURNING, head=LOWER, closed=True)
        before = wins(family)
        wins(family)[0].clear()
        wins(family)[1].clear()
        self.assertEqual(wins(family), before)

    def test_great_sizes(self):
        turning, wheeling = Family(TURNING, head=LOWER, closed=True), some_families()[11]
        for size in (10 ** 50, GREAT, 10 ** 60 - 2):
            self.assertIs(wins_at(turning, size), True)
            self.assertIs(wins_at(family=turning, size=size + 1), False)
            self.assertIs(wins_at(Family(SPARK), size), True)
            self.assertIs(wins_at(Family(TWO, head=SPARK, tail=SPARK), size), False)
            self.assertIs(wins_at(Family(ONE, tail=SPARK), size), True)
        for size in range(10 ** 50, 10 ** 50 + 6):
            self.assertIs(wins_at(wheeling, size), (size - 1) % 3 > 0)

    def test_great_sizes_by_what_wins_tells(self):
        chance = random.Random(44)
        for _ in range(150):
            family = random_family(chance)
            for size in (chance.randrange(10 ** 20), chance.randrange(10 ** 60)):
                self.assertIs(wins_at(family, size), told(wins(family), size))

    def test_no_web_for_wins_at_comes_with_the_value(self):
        family = Family(TURNING, head=LOWER, closed=True)
        for value in no_sizes() + [0, 1]:
            with self.assertRaises(NoWeb) as caught:
                wins_at(family, value)
            self.assertIs(caught.exception.value, value)


if __name__ == "__main__":
    unittest.main()
