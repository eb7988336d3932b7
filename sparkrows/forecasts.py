"""Forecasts: from which size on the needs rise by the same with each period, and so least sums at any size."""

from sparkrows.courses import Chart, Course
from sparkrows.errors import BadSize, NoForecast
from sparkrows.frames import is_integer
from sparkrows.rates import GREATEST_SIZE


def _agree(ways, needs, rises, least, rise):
    """Whether the fronts to which ways lead let a least sum rise by so much.

    No such front rises by less, and some by which the least sum comes about rises by just as much. A way is a pair
    of a front and a price.
    """
    known = [(front, price) for front, price in ways if front in rises]
    if any([rises[front] < rise for front, _ in known]):
        return False
    return any([rises[front] == rise and price + needs[front] == least for front, price in known])


class Outlook:
    """The needs of the fronts of a course for so many numbers of bodies, from 0 on, and its least sums."""

    def __init__(self, course, many):
        self._chart = Chart(course)
        self._needs = self._chart.needs(many)
        self.sums = [self._chart.least(needs) for needs in self._needs]

    def rises(self, place, period):
        """How much more the fronts need a period later than for so many bodies.

        None if one of them has a need for the one number of bodies only.
        """
        now, later = self._needs[place], self._needs[place + period]
        if [need is None for need in now] != [need is None for need in later]:
            return None
        return {front: later[front] - need for front, need in enumerate(now) if need is not None}

    def sum_rises(self, place, period, rises):
        """Whether the least sum rises as the fronts behind the head let it."""
        now, later = self.sums[place], self.sums[place + period]
        if now is None or later is None:
            return now is None and later is None
        return _agree(self._chart.starts, self._needs[place], rises, now, later - now)

    def leads_on(self, place, rises, further):
        """Whether the needs for one body more rise as those for so many bodies let them."""
        needs, more = self._needs[place], self._needs[place + 1]
        return all([
            _agree(steps, needs, rises, more[front], further[front])
            for front, steps in enumerate(self._chart.steps) if more[front] is not None
        ])


class Windows:
    """The windows of one period in an outlook; what they have in common is looked at once."""

    def __init__(self, outlook, period):
        self._outlook = outlook
        self._period = period
        self._rises = {}
        self._leading = {}

    def stands_at(self, start):
        """Whether there is a window with this start."""
        end = start + self._period - 1
        if not all([self._rises_at(place) is not None for place in range(start, end + 1)]):
            return False
        if not all([self._leads_on(place) for place in range(start, end)]):
            return False
        return self._outlook.leads_on(end, self._rises_at(end), self._rises_at(start))

    def _rises_at(self, place):
        """The rises of the fronts, None if the needs or the least sum tell against a window."""
        if place not in self._rises:
            rises = self._outlook.rises(place, self._period)
            if rises is not None and not self._outlook.sum_rises(place, self._period, rises):
                rises = None
            self._rises[place] = rises
        return self._rises[place]

    def _leads_on(self, place):
        if place not in self._leading:
            further = self._rises_at(place + 1)
            self._leading[place] = self._outlook.leads_on(place, self._rises_at(place), further)
        return self._leading[place]


def is_window(family, prices, start, period):
    """Whether any two values are a window with start + 2 * period at most 60."""
    course = Course(family, prices)
    if not is_integer(start) or not is_integer(period) or start < 0 or period < 1:
        return False
    many = start + 2 * period
    return many <= GREATEST_SIZE and Windows(Outlook(course, many), period).stands_at(start)


def _first_window(outlook, within):
    """The window (start, period) with the least period, and then the least start; None if there is none."""
    for period in range(1, within // 2 + 1):
        windows = Windows(outlook, period)
        for start in range(within - 2 * period + 1):
            if windows.stands_at(start):
                return start, period
    return None


def _forecast(course, within):
    outlook = Outlook(course, within)
    window = _first_window(outlook, within)
    if window is None:
        return None
    start, period = window
    sums = outlook.sums
    steps = [None if sums[size] is None else sums[size + period] - sums[size] for size in range(start, start + period)]
    return sums[:start + period], period, steps


def forecast(family, prices, *, within=24):
    """The least sums at the first sizes, the period, and how much greater they are a period later; None without one."""
    return _forecast(Course(family, prices), within)


def far_least(family, prices, size, *, within=24):
    """The least sum at a size of any greatness, by the forecast; None if there is none."""
    course = Course(family, prices)
    if not is_integer(size) or size < 0:
        raise BadSize(size)
    told = _forecast(course, within)
    if told is None:
        raise NoForecast()
    firsts, period, steps = told
    if size < len(firsts):
        return firsts[size]
    start = len(firsts) - period
    times, place = divmod(size - start, period)
    return None if firsts[start + place] is None else firsts[start + place] + times * steps[place]
