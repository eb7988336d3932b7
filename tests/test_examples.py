"""The examples of the interface, as they stand there."""

import doctest
import unittest

from sparkrows.errors import BadLine
from sparkrows.papers import read_family

STAGE_1 = """
>>> from sparkrows.frames import Frame, Stretch, Web
>>> ladder = Frame(2, inner=[(0, 1)], outer=[(1, 1), (0, 0)])
>>> head = Stretch(ladder, [((1, True), (2, False))])
>>> body = Stretch(ladder, [((1, False), (2, False))])
>>> tail = Stretch(ladder, [((1, False), (1, False))])
>>> web = Web(head + body + tail)
>>> [ladder.outer, web.neighbours((1, 0)), web.cell((0, 0)), len(head + body * 2), web.is_seat((3, 0))]
[((0, 0), (1, 1)), [(0, 0), (1, 1), (2, 0)], (1, True), 3, False]
"""

STAGE_2 = """
>>> from sparkrows.frames import Frame, Stretch, Web
>>> from sparkrows.rounds import rounds
>>> ladder = Frame(2, inner=[(0, 1)], outer=[(0, 0), (1, 1)])
>>> columns = [((1, True), (2, False)), ((1, False), (2, False)), ((1, False), (1, False))]
>>> [rounds(Web(Stretch(ladder, columns))), rounds(Web(Stretch(ladder, columns[:2]))), \
rounds(Web(Stretch(ladder, columns[1:])))]
[[[(0, 0)], [(1, 0)], [(2, 0)], [(2, 1)], [(1, 1)], [(0, 1)]], [[(0, 0)], [(1, 0)]], []]
"""

STAGE_3 = """
>>> from sparkrows.frames import Frame, Stretch, Web
>>> from sparkrows.holdouts import holdout, is_order, lean_order
>>> ladder = Frame(2, inner=[(0, 1)], outer=[(0, 0), (1, 1)])
>>> columns = [((1, True), (2, False)), ((1, False), (2, False)), ((1, False), (1, False))]
>>> web = Web(Stretch(ladder, columns))
>>> [lean_order(web, (2, 1)), holdout(Web(Stretch(ladder, columns[:2]))), is_order(web, [(0, 0), (2, 0)])]
[[(0, 0), (1, 0), (2, 0), (2, 1)], [(0, 1), (1, 1)], False]
"""

STAGE_4 = """
>>> from sparkrows.frames import Frame, Stretch
>>> from sparkrows.tables import table_of
>>> path = Frame(1, outer=[(0, 0)])
>>> two, one = Stretch(path, [((2, False),)]), Stretch(path, [((1, False),)])
>>> [table_of(two)[(0,), (0,)], table_of(two * 2)[(0,), (0,)], table_of(two + one)[(), (0,)], \
table_of(two + one)[(0,), (0,)]]
[((0,), (0,), True), ((), (), False), ((), (0,), False), ((0,), (0,), True)]
"""

STAGE_5 = """
>>> from sparkrows.frames import Frame, Stretch
>>> from sparkrows.powers import Family, powers, wins, wins_at
>>> path, crossed = Frame(1, outer=[(0, 0)]), Frame(2, outer=[(0, 1), (1, 0)])
>>> two, spark = Stretch(path, [((2, False),)]), Stretch(path, [((0, True),)])
>>> [powers(two)[:2], powers(Stretch(crossed, [((1, False), (1, False))]))[:2]]
[(1, 1), (0, 2)]
>>> [wins(Family(two, head=spark, tail=spark)), wins(Family(two)), wins(Family(two + spark, closed=True)), \
wins_at(Family(spark), 10 ** 50)]
[([True, True], [False]), ([None], [False]), ([None, None], [True]), True]
"""

STAGE_6 = """
>>> from sparkrows.far import count, is_in
>>> from sparkrows.frames import Frame, Stretch
>>> from sparkrows.powers import Family
>>> crossed = Frame(2, outer=[(0, 1), (1, 0)])
>>> family = Family(Stretch(crossed, [((1, False), (1, False))]), head=Stretch(crossed, [((1, True), (1, False))]))
>>> [is_in(family, 10 ** 30, 10 ** 30, 0), is_in(family, 10 ** 30, 10 ** 30, 1), count(family, 10 ** 30)]
[True, False, 1000000000000000000000000000001]
"""

STAGE_7 = """
>>> from sparkrows.frames import Frame, Stretch
>>> from sparkrows.tables import table_of
>>> from sparkrows.views import alike, parts, view
>>> path = Frame(1, outer=[(0, 0)])
>>> never, one, two = Stretch(path, [((9, False),)]), Stretch(path, [((1, False),)]), Stretch(path, [((2, False),)])
>>> [alike(one + never, never), table_of(one + never) == table_of(never), alike(two * 2, never), alike(two, never)]
[True, False, True, False]
>>> [view(one)[(0,), ()], parts(two, never, ((0, True),), ((0, True),)), \
parts(two, never, ((0, True),), ((1, False),))]
[((None,), (1,), True), True, False]
"""


STAGE_8 = """
>>> from sparkrows.fewest import fewest
>>> from sparkrows.frames import Frame, Stretch, Web
>>> from sparkrows.fronts import front_of
>>> path = Frame(1, outer=[(0, 0)])
>>> two, spark = Stretch(path, [((2, False),)]), Stretch(path, [((0, True),)])
>>> [front_of(two), front_of(spark), front_of(spark + two)]
[(((), False), ((), False)), (((0,), True), ((0,), True)), (((), False), ((0,), True))]
>>> [fewest(Web(two * 5), [(1,)] * 5), fewest(Web(two * 5), [(1,), (1,), (5,), (1,), (1,)]), \
fewest(Web(two), [(None,)])]
[(3, [(0, 0), (2, 0), (4, 0)]), (4, [(0, 0), (1, 0), (3, 0), (4, 0)]), None]
"""

STAGE_9 = """
>>> from sparkrows.forecasts import far_least, forecast
>>> from sparkrows.frames import Frame, Stretch
>>> from sparkrows.powers import Family
>>> from sparkrows.rates import least, needs, rate
>>> path = Frame(1, outer=[(0, 0)])
>>> family, prices = Family(Stretch(path, [((2, False),)])), ([], [(1,)], [])
>>> full, half = (((0,), True), ((0,), True)), (((), False), ((0,), True))
>>> [[line[full] for line in needs(family, prices, 6)], [line[half] for line in needs(family, prices, 6)], \
least(family, prices, 7)]
[[0, 1, 1, 2, 2, 3], [None, 1, 2, 2, 3, 3], 4]
>>> [rate(family, prices), forecast(family, prices), far_least(family, prices, 10 ** 20), \
forecast(family, prices, within=4)]
[(1, 2), ([0, 1, 2], 2, [1, 1]), 50000000000000000001, None]
"""

STAGE_10 = """
>>> from sparkrows.frames import Frame, Stretch, Web
>>> from sparkrows.guards import guard
>>> path = Frame(1, outer=[(0, 0)])
>>> web = Web(Stretch(path, [((0, True),)]) + Stretch(path, [((1, False),)]) * 4)
>>> [guard(web, [(None,), (3,), (1,), (2,), (None,)], [(4, 0)]), guard(web, [(None,)] * 5, [(1, 0)]), \
guard(web, [(None,)] * 5, [])]
[(1, [(2, 0)]), None, (0, [])]
"""

STAGE_11 = """
>>> from sparkrows.fields import Field
>>> from sparkrows.frames import Frame, Stretch, Web
>>> field = Field(Web(Stretch(Frame(1, outer=[(0, 0)]), \
[((0, True),), ((1, False),), ((2, False),), ((1, False),)])))
>>> [field.can_join(), field.step(), field.leave((0, 0)), field.can_join(), field.outcome(), field.put((3, 0)), \
field.outcome(), field.undo(), field.history]
[[(1, 0)], [(1, 0)], None, [(0, 0)], [(0, 0), (1, 0)], None, [(0, 0), (1, 0), (2, 0), (3, 0)], ('put', (3, 0)), \
[('step',), ('leave', (0, 0))]]
"""

STAGE_12 = """
>>> from sparkrows.frames import Frame, Stretch, Web
>>> from sparkrows.papers import format_web, read_family
>>> format_web(Web(Stretch(Frame(2, outer=[(1, 0), (0, 0)]), [((1, True), (2, False))] * 3), closed=True)).split("\\n")
['width 2; inner none; outer 0-0 1-0; closed', '1* 2', '1* 2', '1* 2']
"""


class ExamplesTest(unittest.TestCase):

    def runs(self, text, name, many):
        example = doctest.DocTestParser().get_doctest(text, {}, name, None, None)
        said = []
        result = doctest.DocTestRunner(verbose=False).run(example, out=said.append)
        self.assertEqual((result.failed, result.attempted), (0, many), "".join(said))

    def test_stage_1(self):
        self.runs(STAGE_1, "stage 1", 7)

    def test_stage_2(self):
        self.runs(STAGE_2, "stage 2", 5)

    def test_stage_3(self):
        self.runs(STAGE_3, "stage 3", 6)

    def test_stage_4(self):
        self.runs(STAGE_4, "stage 4", 5)

    def test_stage_5(self):
        self.runs(STAGE_5, "stage 5", 6)

    def test_stage_6(self):
        self.runs(STAGE_6, "stage 6", 6)

    def test_stage_7(self):
        self.runs(STAGE_7, "stage 7", 7)

    def test_stage_8(self):
        self.runs(STAGE_8, "stage 8", 7)

    def test_stage_9(self):
        self.runs(STAGE_9, "stage 9", 9)

    def test_stage_10(self):
        self.runs(STAGE_10, "stage 10", 5)

    def test_stage_11(self):
        self.runs(STAGE_11, "stage 11", 4)

    def test_stage_12(self):
        self.runs(STAGE_12, "stage 12", 3)
        with self.assertRaises(BadLine) as caught:
            read_family("width 1; inner none; outer 0-0; open\nhead\nbody\ntail")
        self.assertEqual(caught.exception.line, 4)


if __name__ == "__main__":
    unittest.main()
