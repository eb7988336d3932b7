"""Trips: walks over the fronts of a family that show its rate from above."""

from sparkrows.courses import Chart, Course
from sparkrows.frames import is_integer, is_place
from sparkrows.fronts import is_front
from sparkrows.rings import least_mean, ring_at, steps_over, useful


def _path(steps, starts, ends):
    """The numbers of a walk with the fewest steps from one of the starts to one of the ends."""
    came = {number: [number] for number in starts}
    waiting = list(starts)
    while waiting[0] not in ends:
        number = waiting.pop(0)
        further = [behind for behind, _ in steps[number] if behind not in came]
        for behind in further:
            came[behind] = came[number] + [behind]
        waiting = waiting + further
    return came[waiting[0]]


def trip(family, prices):
    """A trip for the rate, a tuple (fronts, start, end); None if there is no ring."""
    chart = Chart(Course(family, prices))
    steps = steps_over(chart, useful(chart))
    mean = least_mean(steps)
    if mean is None:
        return None
    ring = ring_at(steps, mean[0], mean[1])
    lead = _path(chart.steps, [number for number, _ in chart.starts], ring[:1])
    out = _path(chart.steps, ring[:1], [number for number, finish in enumerate(chart.finishes) if finish is not None])
    walk = lead + ring[1:] + out[1:]
    return [chart.fronts[number] for number in walk], len(lead) - 1, len(lead) + len(ring) - 2


def _is_walk(course, value):
    """Whether any value is a list of fronts from one behind the head to one that can be finished, step by step."""
    if not isinstance(value, list) or not value or not all([is_front(course.width, front) for front in value]):
        return False
    if value[0] not in course.behind_head() or course.finish(value[-1]) is None:
        return False
    return all([behind in course.behind_body(front) for front, behind in zip(value, value[1:])])


def is_trip(family, prices, amount, bodies, walk, start, end):
    """Whether any values are an integer, an integer from 1 on, and a trip for them."""
    course = Course(family, prices)
    if not is_integer(amount) or not is_integer(bodies) or bodies < 1 or not _is_walk(course, walk):
        return False
    if not is_place(end, len(walk)) or not is_place(start, end) or walk[start] != walk[end]:
        return False
    turn = walk[start:end + 1]
    total = sum([course.behind_body(front)[behind] for front, behind in zip(turn, turn[1:])])
    return bodies * total == amount * (end - start)
