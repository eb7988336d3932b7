"""Point 27: fields."""

import random
import unittest

from sparkrows.errors import BadNeed, CannotJoin, IsIn, NoSeat, NotIn, Nothing, SparkError
from sparkrows.fields import Field, replayed
from sparkrows.frames import Frame, Stretch, Web
from sparkrows.rounds import rounds, won
from tests.helpers import is_plain_integer, ladder, odd_values, path_web, plain_neighbours, random_web, random_webs, shape

NO_NEEDS = [value for value in odd_values() if not (is_plain_integer(value) and 0 <= value <= 9)] + [11, 9.0]


class PlainField:
    """A field by the words of the document, as a set of seats and a dict of needs."""

    def __init__(self, web):
        self.near = plain_neighbours(web)
        cells = {seat: web.stretch.columns[seat[0]][seat[1]] for seat in self.near}
        self.inside = {seat for seat in cells if cells[seat][1]}
        self.needs = {seat: cells[seat][0] for seat in cells}

    def can_join(self):
        return sorted(seat for seat in self.near if seat not in self.inside
                      and len(self.near[seat] & self.inside) >= self.needs[seat])

    def done(self, event):
        """What the event returns."""
        if event[0] == "step":
            joining = self.can_join()
            self.inside |= set(joining)
            return joining
        if event[0] in ("enter", "put"):
            self.inside.add(event[1])
        if event[0] == "leave":
            self.inside.remove(event[1])
        if event[0] == "need":
            self.needs[event[1]] = event[2]
        return None

    def outcome(self, chance):
        """Who is in when nobody can join any more: they join one by one, in any sequence."""
        before = set(self.inside)
        while self.can_join():
            self.inside.add(chance.choice(self.can_join()))
        found, self.inside = sorted(self.inside), before
        return found


def do(field, event):
    """Does an event, and returns what its method does."""
    if event[0] == "step":
        return field.step()
    if event[0] == "enter":
        return field.enter(event[1])
    if event[0] == "put":
        return field.put(event[1])
    if event[0] == "leave":
        return field.leave(event[1])
    return field.set_need(event[1], event[2])


def random_event(chance, plain):
    """Any event that can be done."""
    outside = [seat for seat in plain.near if seat not in plain.inside]
    tries = [("step",), ("need", chance.choice(sorted(plain.near)), chance.choice((0, 1, 1, 2, 2, 3, 9)))]
    if plain.can_join():
        tries.append(("enter", chance.choice(plain.can_join())))
    if outside:
        tries.append(("put", chance.choice(sorted(outside))))
    if plain.inside:
        tries.append(("leave", chance.choice(sorted(plain.inside))))
    return chance.choice(tries)


def state(field):
    """All that a field tells."""
    return repr((shape(field.web), field.inside, field.history, field.can_join(), field.outcome(), field.never()))


def line():
    return Field(path_web([(0, True), (1, False), (2, False), (1, False)]))


class EventsTest(unittest.TestCase):

    def test_the_beginning(self):
        for web in random_webs(151, 80):
            before = shape(web)
            field = Field(web=web)
            self.assertTrue(field.web == web)
            self.assertEqual(field.inside, [seat for seat in web.seats() if web.cell(seat)[1]])
            self.assertEqual(field.history, [])
            self.assertEqual(field.outcome(), won(web))
            self.assertEqual(shape(web), before)

    def test_by_hand(self):
        field = line()
        self.assertEqual([field.can_join(), field.step(), field.leave((0, 0)), field.can_join()],
                         [[(1, 0)], [(1, 0)], None, [(0, 0)]])
        self.assertEqual([field.outcome(), field.put((3, 0)), field.outcome()],
                         [[(0, 0), (1, 0)], None, [(0, 0), (1, 0), (2, 0), (3, 0)]])
        self.assertEqual([field.undo(), field.history], [("put", (3, 0)), [("step",), ("leave", (0, 0))]])

    def test_steps_are_the_rounds(self):
        for web in random_webs(152, 80):
            field, told = Field(web), rounds(web)
            self.assertEqual(field.inside, told[0] if told else [])
            for joining in told[1:]:
                self.assertEqual(field.step(), joining)
            self.assertEqual(field.step(), [])
            self.assertEqual(field.inside, won(web))
            self.assertEqual(len(field.history), len(told[1:]) + 1)

    def test_each_event_against_the_words(self):
        chance = random.Random(153)
        done = []
        for web in random_webs(154, 80):
            before = shape(web)
            field, plain, events = Field(web), PlainField(web), []
            for _ in range(12):
                event = random_event(chance, plain)
                told = do(field, event)
                self.assertEqual(told, plain.done(event))
                events.append(event)
                done.append(event[0])
                self.assertEqual(field.inside, sorted(plain.inside))
                self.assertEqual(field.can_join(), plain.can_join())
                self.assertEqual(repr(field.history), repr(events))
                for seat in web.seats():
                    self.assertEqual(field.web.cell(seat), (plain.needs[seat], web.cell(seat)[1]))
                self.assertEqual((field.web.closed, field.web.stretch.frame == web.stretch.frame), (web.closed, True))
                outcome = plain.outcome(chance)
                for _ in range(2):
                    self.assertEqual(plain.outcome(chance), outcome)
                self.assertEqual(field.outcome(), outcome)
                self.assertEqual(field.never(), sorted(set(plain.near) - set(outcome)))
                self.assertEqual(field.inside, sorted(plain.inside))
            self.assertEqual(shape(web), before)
        for name in ("enter", "step", "put", "leave", "need"):
            self.assertGreater(done.count(name), 50)

    def test_enter(self):
        field = line()
        self.assertIsNone(field.enter(seat=(1, 0)))
        self.assertEqual((field.inside, field.history), ([(0, 0), (1, 0)], [("enter", (1, 0))]))

    def test_a_step_of_nobody(self):
        field = Field(path_web([(1, False), (2, False)]))
        self.assertEqual([field.step(), field.step(), field.history], [[], [], [("step",), ("step",)]])
        self.assertEqual(field.undo(), ("step",))
        self.assertEqual(field.history, [("step",)])

    def test_put_whatever_it_needs(self):
        field = Field(path_web([(9, False), (1, False)]))
        self.assertIsNone(field.put(seat=(0, 0)))
        self.assertEqual((field.inside, field.can_join(), field.web.cell((0, 0))), ([(0, 0)], [(1, 0)], (9, False)))

    def test_who_left_may_join_again(self):
        field = line()
        field.enter((1, 0))
        field.leave(seat=(0, 0))
        self.assertEqual((field.inside, field.can_join()), ([(1, 0)], [(0, 0)]))
        # Whoever starts still does in the web, but is not in.
        self.assertEqual(field.web.cell((0, 0)), (0, True))
        field.set_need((0, 0), 2)
        self.assertEqual((field.can_join(), field.never()), ([], [(0, 0), (2, 0), (3, 0)]))
        field.set_need((0, 0), 1)
        field.enter((0, 0))
        self.assertEqual(field.inside, [(0, 0), (1, 0)])

    def test_nobody_leaves_by_another_need(self):
        field = line()
        field.step()
        self.assertIsNone(field.set_need(seat=(1, 0), need=9))
        self.assertEqual((field.inside, field.web.cell((1, 0))), ([(0, 0), (1, 0)], (9, False)))
        field.leave((1, 0))
        self.assertEqual(field.can_join(), [])
        field.set_need((1, 0), 0)
        self.assertEqual(field.can_join(), [(1, 0)])

    def test_rings(self):
        field = Field(path_web([(1, False), (2, False), (1, True)], closed=True))
        self.assertEqual([field.step(), field.step(), field.never()], [[(0, 0)], [(1, 0)], []])

    def test_sixty_columns(self):
        web = Web(Stretch(ladder(3), [((0, True), (2, False), (2, False))] + [((1, False), (2, False), (2, False))] * 59))
        field = Field(web)
        self.assertEqual(len(field.outcome()), 180 - len(field.never()))
        self.assertEqual(field.outcome(), won(web))


class UndoTest(unittest.TestCase):

    def test_each_kind(self):
        for event in (("step",), ("enter", (1, 0)), ("put", (3, 0)), ("leave", (0, 0)), ("need", (2, 0), 7),
                      ("need", (0, 0), 3), ("need", (2, 0), 2)):
            field = line()
            before = state(field)
            do(field, event)
            self.assertNotEqual(state(field), before)
            self.assertEqual(repr(field.undo()), repr(event))
            self.assertEqual(state(field), before)

    def test_all_of_them(self):
        chance = random.Random(155)
        for web in random_webs(156, 40):
            field, plain, states, events = Field(web), PlainField(web), [], []
            for _ in range(10):
                states.append(state(field))
                events.append(random_event(chance, plain))
                do(field, events[-1])
                plain.done(events[-1])
            while events:
                self.assertEqual(field.undo(), events.pop())
                self.assertEqual(state(field), states.pop())
            with self.assertRaises(Nothing):
                field.undo()
            self.assertEqual(state(field), state(Field(web)))

    def test_behind_an_undo(self):
        field = line()
        field.step()
        field.put((3, 0))
        field.undo()
        field.leave((1, 0))
        self.assertEqual(field.history, [("step",), ("leave", (1, 0))])
        self.assertEqual(field.inside, [(0, 0)])
        field.undo()
        self.assertEqual(field.inside, [(0, 0), (1, 0)])

    def test_a_seat_that_was_in_stays_in(self):
        # A step is taken back for those that joined by it.
        field = Field(path_web([(0, True), (1, False), (1, True)]))
        field.step()
        field.undo()
        self.assertEqual(field.inside, [(0, 0), (2, 0)])

    def test_nothing(self):
        field = line()
        for _ in range(2):
            with self.assertRaises(Nothing):
                field.undo()
        field.step()
        field.undo()
        with self.assertRaises(Nothing):
            field.undo()


class RefusedTest(unittest.TestCase):

    def refused(self, field, error, value, ask):
        before = state(field)
        with self.assertRaises(SparkError) as caught:
            ask()
        self.assertIs(type(caught.exception), error)
        self.assertIs(caught.exception.value, value)
        self.assertEqual(state(field), before)

    def fields(self):
        field = line()
        yield line()
        field.step()
        field.leave((0, 0))
        yield field
        yield Field(Web(Stretch(Frame(2, inner=[(0, 1)]), [((1, True), (1, False))] * 3), closed=True))

    def test_no_seat_comes_first(self):
        for field in self.fields():
            wrong = [value for value in odd_values() if not field.web.is_seat(value)] + [(4, 0), (0, 2), (0, -1)]
            for value in wrong:
                self.refused(field, NoSeat, value, lambda: field.enter(value))
                self.refused(field, NoSeat, value, lambda: field.put(value))
                self.refused(field, NoSeat, value, lambda: field.leave(value))
                self.refused(field, NoSeat, value, lambda: field.set_need(value, 1))
                self.refused(field, NoSeat, value, lambda: field.set_need(value, 10))
                self.refused(field, NoSeat, value, lambda: field.set_need(value, value))

    def test_who_cannot_join(self):
        for field in self.fields():
            for seat in field.web.seats():
                if seat not in field.can_join():
                    self.refused(field, CannotJoin, seat, lambda: field.enter(seat))
        # Who is in cannot join, either.
        self.assertIn((0, 0), line().inside)

    def test_who_is_in_and_who_is_not(self):
        for field in self.fields():
            for seat in field.web.seats():
                if seat in field.inside:
                    self.refused(field, IsIn, seat, lambda: field.put(seat))
                else:
                    self.refused(field, NotIn, seat, lambda: field.leave(seat))

    def test_no_need(self):
        for field in self.fields():
            for value in NO_NEEDS:
                self.refused(field, BadNeed, value, lambda: field.set_need((0, 0), value))
                self.refused(field, BadNeed, value, lambda: field.set_need((2, 0), value))
            for need in range(10):
                self.assertIsNone(field.set_need((1, 0), need))
                self.assertEqual(field.web.cell((1, 0)), (need, field.web.cell((1, 0))[1]))


class ForkTest(unittest.TestCase):

    def test_events_of_the_one_do_not_change_the_other(self):
        chance = random.Random(157)
        for web in random_webs(158, 30):
            field, plain = Field(web), PlainField(web)
            for _ in range(5):
                event = random_event(chance, plain)
                do(field, event)
                plain.done(event)
            other = field.fork()
            self.assertIs(type(other), Field)
            self.assertEqual(state(other), state(field))
            for one, two in ((field, other), (other, field)):
                before = state(two)
                behind = PlainField(one.web)
                behind.inside = set(one.inside)
                for _ in range(4):
                    event = random_event(chance, behind)
                    do(one, event)
                    behind.done(event)
                self.assertEqual(state(two), before)
            for some in (field, other):
                self.assertEqual(len(some.history), 9)
                while some.history:
                    some.undo()
                self.assertEqual(state(some), state(Field(web)))

    def test_undo_in_a_fork(self):
        field = line()
        field.step()
        other = field.fork()
        self.assertEqual(other.undo(), ("step",))
        self.assertEqual((other.history, field.history), ([], [("step",)]))
        self.assertEqual((other.inside, field.inside), ([(0, 0)], [(0, 0), (1, 0)]))
        with self.assertRaises(Nothing):
            other.undo()
        self.assertEqual(field.undo(), ("step",))


class ReplayedTest(unittest.TestCase):

    def test_the_history_leads_to_the_same(self):
        chance = random.Random(159)
        for web in random_webs(160, 50):
            before = shape(web)
            field, plain = Field(web), PlainField(web)
            for _ in range(10):
                event = random_event(chance, plain)
                do(field, event)
                plain.done(event)
            events = field.history
            again = replayed(web=web, events=events)
            self.assertIs(type(again), Field)
            self.assertEqual(state(again), state(field))
            self.assertEqual(events, field.history)
            self.assertEqual(shape(web), before)
            again.step()
            self.assertEqual(events, field.history)

    def test_none(self):
        for web in random_webs(161, 10):
            self.assertEqual(state(replayed(web, [])), state(Field(web)))

    def test_each_kind(self):
        web = path_web([(0, True), (1, False), (2, False), (1, False)])
        events = [("step",), ("need", (2, 0), 1), ("enter", (2, 0)), ("leave", (0, 0)), ("put", (3, 0)), ("step",)]
        field = replayed(web, events)
        self.assertEqual(field.history, events)
        self.assertEqual((field.inside, field.web.cell((2, 0))), ([(0, 0), (1, 0), (2, 0), (3, 0)], (1, False)))


class AnewTest(unittest.TestCase):

    def test_what_is_returned_is_new(self):
        field = line()
        field.step()
        before = state(field)
        for told in (field.inside, field.history, field.can_join(), field.outcome(), field.never()):
            told.append("more")
            told.clear()
        self.assertEqual(state(field), before)
        field.step().append("more")
        self.assertEqual(field.inside, [(0, 0), (1, 0)])

    def test_what_was_handed_in_stays(self):
        chance = random.Random(162)
        web = random_web(chance, 3, 5)
        before = shape(web)
        field = Field(web)
        for seat in web.seats():
            field.set_need(seat, 0)
        field.step()
        for seat in web.seats():
            field.leave(seat)
        self.assertEqual(shape(web), before)
        self.assertEqual(field.inside, [])

    def test_properties(self):
        for name in ("web", "inside", "history"):
            self.assertIsInstance(vars(Field)[name], property)


if __name__ == "__main__":
    unittest.main()
