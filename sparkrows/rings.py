"""Rings: walks over useful fronts that end where they began, the least mean of them, and what shows it."""

from math import gcd


def useful(chart):
    """The fronts from which some number of steps leads to one that can be finished, as a dict of True."""
    ahead = [[] for _ in chart.fronts]
    for number, steps in enumerate(chart.steps):
        for behind, _ in steps:
            ahead[behind].append(number)
    waiting = [number for number, finish in enumerate(chart.finishes) if finish is not None]
    found = {number: True for number in waiting}
    while waiting:
        front = waiting.pop()
        further = sorted({number for number in ahead[front] if number not in found})
        for number in further:
            found[number] = True
        waiting = waiting + further
    return found


def steps_over(chart, fronts):
    """For each of some fronts the steps to others of them."""
    return {
        number: [(behind, price) for behind, price in chart.steps[number] if behind in fronts] for number in fronts
    }


def _endless(steps):
    """The steps by which a walk never has to end."""
    kept = {number: ways for number, ways in steps.items() if ways}
    while len(kept) < len(steps):
        steps = {number: [way for way in ways if way[0] in kept] for number, ways in kept.items()}
        kept = {number: ways for number, ways in steps.items() if ways}
    return kept


def _sums_by_length(steps):
    """For each length of walks from 0 to as many as there are fronts, the least sums with which they end at each."""
    found = [{number: 0 for number in steps}]
    for _ in steps:
        further = {}
        for number, before in found[-1].items():
            for behind, price in steps[number]:
                if behind not in further or before + price < further[behind]:
                    further[behind] = before + price
        found.append(further)
    return found


def _is_less(one, other):
    """Whether one fraction (amount, bodies) is less than another one."""
    return one[0] * other[1] < other[0] * one[1]


def _greatest_mean(sums, number):
    """The greatest mean by which a longest walk to a front is more than a shorter one."""
    many = len(sums) - 1
    found = None
    for length in range(many):
        if number in sums[length]:
            mean = (sums[many][number] - sums[length][number], many - length)
            if found is None or _is_less(found, mean):
                found = mean
    return found


def least_mean(steps):
    """The least mean of a ring of these steps, in lowest terms; None if there is none."""
    # By Karp: a walk as long as there are fronts goes round a ring, and the least mean is that by which it can be
    # told from shorter ones.
    sums = _sums_by_length(_endless(steps))
    found = None
    for number in sums[-1]:
        mean = _greatest_mean(sums, number)
        if found is None or _is_less(mean, found):
            found = mean
    if found is None:
        return None
    common = gcd(found[0], found[1])
    return found[0] // common, found[1] // common


def lifts(steps, amount, bodies):
    """For each front the least that a walk to it can have, if amount is taken from bodies times each step.

    No ring has a lesser mean, so no walk gets less by going round.
    """
    found = {number: 0 for number in steps}
    before = None
    while found != before:
        before = {number: found[number] for number in found}
        for number, ways in steps.items():
            for behind, price in ways:
                found[behind] = min(found[behind], found[number] + bodies * price - amount)
    return found


def ring_at(steps, amount, bodies):
    """The fronts of a ring with this mean, which no ring has less than, the first one at the end again."""
    found = lifts(steps, amount, bodies)
    # Round the ring nothing is gained or lost, so none of its steps leads to less than it could.
    tight = _endless({
        number: [way for way in ways if found[way[0]] == found[number] + bodies * way[1] - amount]
        for number, ways in steps.items()
    })
    walk = [min(tight)]
    while walk[-1] not in walk[:-1]:
        walk.append(tight[walk[-1]][0][0])
    return walk[walk.index(walk[-1]):]
