"""Fields: webs that go on by events, which can be taken back."""

from sparkrows.errors import BadNeed, CannotJoin, IsIn, NoSeat, NotIn, Nothing
from sparkrows.frames import GREATEST_NEED, is_place


class Field:
    """A web in which seats join and leave, and have other needs, one event after the other."""

    def __init__(self, web):
        seats = web.seats()
        self._near = {seat: web.neighbours(seat) for seat in seats}
        # The dict of the seats that are in is exchanged by an event, never changed: it is kept for what is taken back.
        self._inside = {seat: True for seat in seats if web.cell(seat)[1]}
        self._web = web
        self._past = []

    @property
    def web(self):
        """The web with the needs of now."""
        return self._web

    @property
    def inside(self):
        """The seats that are in, ascending."""
        return sorted(self._inside)

    @property
    def history(self):
        """The events that were done."""
        return [event for event, _, _ in self._past]

    def can_join(self):
        """The seats that can join now, ascending."""
        return self._joining(self._inside, list(self._near))

    def enter(self, seat):
        """A seat that can join does."""
        self._check_seat(seat)
        if not self._joining(self._inside, [seat]):
            raise CannotJoin(seat)
        self._note(("enter", seat))
        self._inside = _with(self._inside, [seat])

    def step(self):
        """All seats that can join do; they are returned, ascending."""
        joining = self.can_join()
        self._note(("step",))
        self._inside = _with(self._inside, joining)
        return joining

    def put(self, seat):
        """A seat that is not in is in now, whatever it needs."""
        self._check_seat(seat)
        if seat in self._inside:
            raise IsIn(seat)
        self._note(("put", seat))
        self._inside = _with(self._inside, [seat])

    def leave(self, seat):
        """A seat that is in is no longer."""
        self._check_seat(seat)
        if seat not in self._inside:
            raise NotIn(seat)
        self._note(("leave", seat))
        self._inside = {other: True for other in self._inside if other != seat}

    def set_need(self, seat, need):
        """A seat has another need."""
        self._check_seat(seat)
        if not is_place(need, GREATEST_NEED + 1):
            raise BadNeed(need)
        self._note(("need", seat, need))
        self._web = self._web.changed(seat, (need, self._web.cell(seat)[1]))

    def undo(self):
        """Takes the last event back and returns it."""
        if not self._past:
            raise Nothing()
        event, self._inside, self._web = self._past.pop()
        return event

    def fork(self):
        """A new field that stands as this one does."""
        other = Field(self._web)
        other._inside = self._inside
        other._past = list(self._past)
        return other

    def outcome(self):
        """The seats that are in when, from now on, nobody can join any more, ascending."""
        inside = self._inside
        joining = self.can_join()
        while joining:
            inside = _with(inside, joining)
            joining = self._joining(inside, sorted({near for seat in joining for near in self._near[seat]}))
        return sorted(inside)

    def never(self):
        """All other seats, ascending."""
        outcome = {seat: True for seat in self.outcome()}
        return [seat for seat in self._near if seat not in outcome]

    def _joining(self, inside, seats):
        """Those of some seats that can join if these are in."""
        needs = {seat: self._web.cell(seat)[0] for seat in seats if seat not in inside}
        return [seat for seat in needs if len([near for near in self._near[seat] if near in inside]) >= needs[seat]]

    def _check_seat(self, value):
        """Raises the error that is due for a value that is no seat."""
        if not self._web.is_seat(value):
            raise NoSeat(value)

    def _note(self, event):
        """Keeps an event, and how the field stood ahead of it."""
        self._past.append((event, self._inside, self._web))


def _with(inside, seats):
    """The seats that are in if some seats join them."""
    found = {seat: True for seat in inside}
    for seat in seats:
        found[seat] = True
    return found


def replayed(web, events):
    """The field behind a list of events that can be done one after the other from the beginning."""
    field = Field(web)
    for event in events:
        name = event[0]
        if name == "step":
            field.step()
        elif name == "enter":
            field.enter(event[1])
        elif name == "put":
            field.put(event[1])
        elif name == "leave":
            field.leave(event[1])
        else:
            field.set_need(event[1], event[2])
    return field
