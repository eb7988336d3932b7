"""Powers: the tables of a stretch once, twice, and so on; and families, webs that grow by them."""

from sparkrows.errors import BadTimes, NoColumns, NoWeb, OtherFrame
from sparkrows.frames import Stretch, Web, is_integer
from sparkrows.tables import NOBODY, Table, at_rest, table_of, table_of_any

# With so many bodies there is always a web: a ring has three columns or more.
SURELY = 3


def powers(stretch):
    """The least powers of a stretch, a tuple (start, period, tables)."""
    tables = []
    table = table_of(stretch)
    while table not in tables:
        tables.append(table)
        table = table + tables[0]
    start = tables.index(table)
    return start, len(tables) - start, tables


def is_powers(stretch, start, period, tables):
    """Whether any values are powers of a stretch."""
    due = table_of(stretch)
    if not is_integer(start) or not is_integer(period) or start < 0 or period < 1:
        return False
    if not isinstance(tables, list) or len(tables) != start + period:
        return False
    for table in tables:
        if not isinstance(table, Table) or table != due:
            return False
        due = table + tables[0]
    return due == tables[start]


def _so_many_times(known, times):
    """The table, by the powers (start, period, tables), of the stretch so many times, at least once."""
    start, period, tables = known
    place = times - 1
    if place > start:
        place = start + (place - start) % period
    return tables[place]


def power(stretch, times):
    """The table of a stretch so many times."""
    known = powers(stretch)
    if not is_integer(times) or times < 1:
        raise BadTimes(times)
    return _so_many_times(known, times)


class Family:
    """A head, a body that is repeated, and a tail: webs of all sizes."""

    def __init__(self, body, *, head=None, tail=None, closed=False):
        if len(body) == 0:
            raise NoColumns()
        self.body = body
        self.head = Stretch(body.frame, []) if head is None else head
        self.tail = Stretch(body.frame, []) if tail is None else tail
        self.closed = closed
        if self.head.frame != body.frame or self.tail.frame != body.frame:
            raise OtherFrame()
        self._worked_out = None

    def __eq__(self, other):
        return (isinstance(other, Family) and self.body == other.body and self.head == other.head
                and self.tail == other.tail and self.closed == other.closed)

    def has(self, size):
        """Whether any value is a size at which there is a web."""
        fewest = 3 if self.closed else 1
        return is_integer(size) and size >= 0 and self.length(size) >= fewest

    def length(self, size):
        """How many columns there are at a size."""
        return len(self.head) + len(self.body) * size + len(self.tail)

    def at(self, size):
        """The web of a size."""
        if not self.has(size):
            raise NoWeb(size)
        return Web(self.head + self.body * size + self.tail, closed=self.closed)

    def turn(self):
        """A size from which on there are webs and their tables come again, and after how many sizes they do."""
        start, period, _ = self._parts()[1]
        return max(start + 1, SURELY), period

    def tables(self, times):
        """The tables in a row: the head's, for each of some numbers that of so many bodies, and the tail's."""
        head, known, tail, nothing = self._parts()
        bodies = [nothing if many == 0 else _so_many_times(known, many) for many in times]
        return [head, *bodies, tail]

    def ends(self):
        """The sides of a whole web; None for a ring."""
        return None if self.closed else NOBODY

    def _parts(self):
        # Every question about a web of the family needs these, so they are worked out once.
        if self._worked_out is None:
            nothing = table_of_any(Stretch(self.body.frame, []))
            self._worked_out = (table_of_any(self.head), powers(self.body), table_of_any(self.tail), nothing)
        return self._worked_out


def _all_won(family, size):
    """Whether all are won at a size; None if there is no web."""
    if not family.has(size):
        return None
    return all([entry[2] for entry in at_rest(family.tables([size]), family.ends())])


def _least_turn(answers):
    """How many of the answers, which come again and again, are enough to tell them all."""
    return [many for many in range(1, len(answers) + 1) if answers[many:] + answers[:many] == answers][0]


def wins(family):
    """Whether all are won, for all sizes: the answers for the first ones, and those that come again and again."""
    lead, period = family.turn()
    answers = [_all_won(family, size) for size in range(lead + period)]
    many = _least_turn(answers[lead:])
    while lead > 0 and answers[lead - 1] == answers[lead - 1 + many]:
        lead -= 1
    return answers[:lead], answers[lead:lead + many]


def wins_at(family, size):
    """Whether all are won at a size."""
    if not family.has(size):
        raise NoWeb(size)
    return _all_won(family, size)
