"""The examples of the interface, as they stand there."""

import doctest
import unittest

STAGE_1 = """
>>> from sparkrows.frames import Frame, Stretch, Web
>>> ladder = Frame(2, inner=[(0, 1)], outer=[(1, 1), (0, 0)])
>>> head = Stretch(ladder, [((1, True), (2, False))])
>>> body = Stretch(ladder, [((1, False), (2, False))])
>>> tail = Stretch(ladder, [((1, False), (1, False))])
>>> web = Web(head + body + tail)
>>> [ladder.outer, web.neighbours((1, 0)), web.cell((0, 0)), len(head + body * 2), web.is_seat((3, 0))]
[((0, 0), (1, 1)), [(0, 0), (1, 1), (2, 0)], (1, True), 3, False]
"""

STAGE_2 = """
>>> from sparkrows.frames import Frame, Stretch, Web
>>> from sparkrows.rounds import rounds
>>> ladder = Frame(2, inner=[(0, 1)], outer=[(0, 0), (1, 1)])
>>> columns = [((1, True), (2, False)), ((1, False), (2, False)), ((1, False), (1, False))]
>>> [rounds(Web(Stretch(ladder, columns))), rounds(Web(Stretch(ladder, columns[:2]))), \
rounds(Web(Stretch(ladder, columns[1:])))]
[[[(0, 0)], [(1, 0)], [(2, 0)], [(2, 1)], [(1, 1)], [(0, 1)]], [[(0, 0)], [(1, 0)]], []]
"""

STAGE_3 = """
>>> from sparkrows.frames import Frame, Stretch, Web
>>> from sparkrows.holdouts import holdout, is_order, lean_order
>>> ladder = Frame(2, inner=[(0, 1)], outer=[(0, 0), (1, 1)])
>>> columns = [((1, True), (2, False)), ((1, False), (2, False)), ((1, False), (1, False))]
>>> web = Web(Stretch(ladder, columns))
>>> [lean_order(web, (2, 1)), holdout(Web(Stretch(ladder, columns[:2]))), is_order(web, [(0, 0), (2, 0)])]
[[(0, 0), (1, 0), (2, 0), (2, 1)], [(0, 1), (1, 1)], False]
"""


class ExamplesTest(unittest.TestCase):

    def runs(self, text, name, many):
        example = doctest.DocTestParser().get_doctest(text, {}, name, None, None)
        said = []
        result = doctest.DocTestRunner(verbose=False).run(example, out=said.append)
        self.assertEqual((result.failed, result.attempted), (0, many), "".join(said))

    def test_stage_1(self):
        self.runs(STAGE_1, "stage 1", 7)

    def test_stage_2(self):
        self.runs(STAGE_2, "stage 2", 5)

    def test_stage_3(self):
        self.runs(STAGE_3, "stage 3", 6)


if __name__ == "__main__":
    unittest.main()
