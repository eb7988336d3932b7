"""Why seats are won, and why others are not."""

from sparkrows.errors import NoSeat
from sparkrows.rounds import rounds, won


def _holds_out(web, seat, listed):
    """Whether too few of the neighbours of a seat, which does not start, are outside of what is listed."""
    need, starts = web.cell(seat)
    outside = [near for near in web.neighbours(seat) if near not in listed]
    return not starts and len(outside) < need


def is_holdout(web, value):
    """Whether any value is a holdout of the web."""
    if not web.are_seats(value):
        return False
    listed = {seat: True for seat in value}
    return all([_holds_out(web, seat, listed) for seat in value])


def holdout(web):
    """The greatest holdout, ascending."""
    inside = {seat: True for seat in won(web)}
    return [seat for seat in web.seats() if seat not in inside]


def _supports(web, order):
    """For each seat of a list, its neighbours ahead of it in the list."""
    places = {seat: place for place, seat in enumerate(order)}
    return {
        seat: [near for near in web.neighbours(seat) if near in places and places[near] < places[seat]]
        for seat in order
    }


def _to_spare(web, supports):
    """For each seat that does not start, how many more neighbours than it needs support it."""
    cells = {seat: web.cell(seat) for seat in supports}
    return {seat: len(supports[seat]) - cells[seat][0] for seat in cells if not cells[seat][1]}


def is_order(web, value):
    """Whether any value is an order of the web."""
    if not web.are_seats(value):
        return False
    spare = _to_spare(web, _supports(web, value))
    return all([spare[seat] >= 0 for seat in spare])


def is_lean(web, seat, value):
    """Whether any value is a lean order to a seat."""
    if not web.is_seat(seat):
        raise NoSeat(seat)
    if not is_order(web, value) or value[-1:] != [seat]:
        return False
    supports = _supports(web, value)
    spare = _to_spare(web, supports)
    # A seat can be left out just if each seat that it supports has one to spare.
    missed = {near: True for other in spare if spare[other] == 0 for near in supports[other]}
    return all([other in missed for other in value[:-1]])


def _order_to(web, seat):
    """The seats that join ahead of a seat, by their moments, and it; None if it is not won."""
    order = []
    for joining in rounds(web):
        if seat in joining:
            return order + [seat]
        order.extend(joining)
    return None


def _thinned(web, order):
    """A lean order to the last seat of an order."""
    spare = _to_spare(web, _supports(web, order))
    kept = {}
    # From the end on: what supports a kept seat only gets less, so who cannot be spared once never can.
    for seat in order[::-1]:
        supported = [near for near in web.neighbours(seat) if near in kept and near in spare]
        if kept and all([spare[near] > 0 for near in supported]):
            for near in supported:
                spare[near] -= 1
        else:
            kept[seat] = True
    return [seat for seat in order if seat in kept]


def lean_order(web, seat):
    """A lean order to a seat, None if it is not won."""
    if not web.is_seat(seat):
        raise NoSeat(seat)
    order = _order_to(web, seat)
    return None if order is None else _thinned(web, order)
