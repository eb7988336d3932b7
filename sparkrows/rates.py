"""Rates: the fronts of a family with prices, what they need, and how the least sum grows with the size."""

from sparkrows.courses import Chart, Course, are_family_prices
from sparkrows.errors import BadSize
from sparkrows.frames import is_integer, is_place
from sparkrows.fronts import is_front
from sparkrows.rings import least_mean, lifts, steps_over, useful

GREATEST_SIZE = 60


def is_family_prices(family, value):
    """Whether any value is prices for the family."""
    return are_family_prices(family, value)


def fronts_of(family, prices):
    """The fronts of a family, ascending."""
    return Course(family, prices).all_fronts()


def behind_body(family, prices, front):
    """The fronts to which a step leads from a front, with the least sums of the steps."""
    steps = Course(family, prices).behind_body(front)
    return {behind: steps[behind] for behind in steps}


def needs(family, prices, many):
    """For each number of bodies, from 0 on, so many numbers, the needs of all fronts."""
    chart = Chart(Course(family, prices))
    return [dict(zip(chart.fronts, told)) for told in chart.needs(many)]


def least(family, prices, size):
    """The least sum at a size, None if there is none."""
    course = Course(family, prices)
    if not is_place(size, GREATEST_SIZE + 1):
        raise BadSize(size)
    chart = Chart(course)
    return chart.least(chart.needs(size + 1)[size])


def rate(family, prices):
    """The least mean of a ring, (amount, bodies) in lowest terms; None if there is no ring."""
    chart = Chart(Course(family, prices))
    return least_mean(steps_over(chart, useful(chart)))


def heights(family, prices):
    """Heights for the rate, None if there is no ring."""
    chart = Chart(Course(family, prices))
    steps = steps_over(chart, useful(chart))
    mean = least_mean(steps)
    if mean is None:
        return None
    found = lifts(steps, mean[0], mean[1])
    return {front: found.get(number) for number, front in enumerate(chart.fronts)}


def _are_lifts(value, width):
    """Whether any value is a dict from fronts to integers or None."""
    if not isinstance(value, dict):
        return False
    return all([is_front(width, front) and (value[front] is None or is_integer(value[front])) for front in value])


def _holds(course, value, front, amount, bodies):
    """Whether a front of heights has what they ask of it and of the steps from it."""
    steps = course.behind_body(front)
    if not all([behind in value for behind in steps]):
        return False
    known = [behind for behind in steps if value[behind] is not None]
    if value[front] is None:
        return course.finish(front) is None and not known
    return all([value[behind] <= value[front] + bodies * steps[behind] - amount for behind in known])


def is_heights(family, prices, amount, bodies, value):
    """Whether any three values are an integer, an integer from 1 on, and heights for them."""
    course = Course(family, prices)
    if not is_integer(amount) or not is_integer(bodies) or bodies < 1 or not _are_lifts(value, course.width):
        return False
    if not all([front in value for front in course.behind_head()]):
        return False
    return all([_holds(course, value, front, amount, bodies) for front in value])
