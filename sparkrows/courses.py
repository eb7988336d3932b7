"""Courses: the fronts of an open family with prices, the steps between them, and what they need."""

from sparkrows.errors import BadPrices, ClosedWeb
from sparkrows.fronts import first_front
from sparkrows.layers import are_prices, starter_layers, sums_behind, tells


def are_family_prices(family, value):
    """Whether any value is prices for a family: a tuple of those for its head, its body and its tail."""
    if not isinstance(value, tuple) or len(value) != 3:
        return False
    parts = [family.head, family.body, family.tail]
    return all([are_prices(part, prices) for part, prices in zip(parts, value)])


def _least(sums):
    """The least of some sums, None if there are none."""
    return min(sums) if sums else None


class Course:
    """An open family with prices: what can come about behind its head and its bodies."""

    def __init__(self, family, prices):
        if family.closed:
            raise ClosedWeb()
        if not are_family_prices(family, prices):
            raise BadPrices(prices)
        self.width = family.body.frame.width
        head = starter_layers(family.head, prices[0])
        self._body = starter_layers(family.body, prices[1])
        self._tail = starter_layers(family.tail, prices[2])
        self._behind_head = sums_behind(head, {first_front(self.width): 0})
        self._behind_body = {}
        self._finishes = {}

    def behind_head(self):
        """The fronts that can come about behind the head, with the least sums by which they do."""
        return self._behind_head

    def behind_body(self, front):
        """The fronts to which a step leads from a front, with the least sums of the steps."""
        if front not in self._behind_body:
            self._behind_body[front] = sums_behind(self._body, {front: 0})
        return self._behind_body[front]

    def finish(self, front):
        """The least sum at which a front is finished, None if it cannot be."""
        if front not in self._finishes:
            last = sums_behind(self._tail, {front: 0})
            self._finishes[front] = _least([last[behind] for behind in last if tells(behind)])
        return self._finishes[front]

    def all_fronts(self):
        """The fronts that can come about behind the head and any number of bodies, ascending."""
        waiting = list(self._behind_head)
        found = {front: True for front in waiting}
        while waiting:
            steps = self.behind_body(waiting.pop())
            further = [front for front in steps if front not in found]
            for front in further:
                found[front] = True
            waiting = waiting + further
        return sorted(found)


class Chart:
    """The fronts of a course with numbers, from 0, as they ascend, and the steps between these."""

    def __init__(self, course):
        self.fronts = course.all_fronts()
        numbers = {front: number for number, front in enumerate(self.fronts)}
        self.starts = [(numbers[front], total) for front, total in course.behind_head().items()]
        self.steps = [
            [(numbers[behind], price) for behind, price in course.behind_body(front).items()]
            for front in self.fronts
        ]
        self.finishes = [course.finish(front) for front in self.fronts]

    def needs(self, many):
        """For each number of bodies, from 0 on, so many numbers, the needs of the fronts."""
        found = [list(self.finishes)]
        while len(found) < many:
            needs = found[-1]
            found.append([
                _least([price + needs[behind] for behind, price in steps if needs[behind] is not None])
                for steps in self.steps
            ])
        return found

    def least(self, needs):
        """The least sum at a size, None if there is none, by the needs of the fronts for so many bodies."""
        return _least([total + needs[front] for front, total in self.starts if needs[front] is not None])
