"""Guards: the least sum at which watched seats of an open web are kept from being won, and what shows it."""

from sparkrows.errors import BadPrices, BadSeats, ClosedWeb
from sparkrows.layers import Passage, are_prices, bar_layers
from sparkrows.tables import sides


def _passage(web, prices, watched):
    """The way through a web at some prices, if these are such; else raises the error that is due."""
    if web.closed:
        raise ClosedWeb()
    if not are_prices(web.stretch, prices):
        raise BadPrices(prices)
    if not web.are_seats(watched):
        raise BadSeats(watched)
    width = web.stretch.frame.width
    front = tuple([((), False) for _ in sides(width)])
    return Passage(width, bar_layers(web.stretch, prices, watched), front, False)


def guard(web, prices, watched):
    """The least sum of a guard for watched seats, and such a guard; None if there is none."""
    return _passage(web, prices, watched).cheapest()


def guard_floor(web, prices, watched):
    """A floor for the least sum of a guard, for None if there is none."""
    return _passage(web, prices, watched).floor()


def holds_guard_floor(web, prices, watched, amount, value):
    """Whether any two values are an amount, or None, and a floor for it."""
    return _passage(web, prices, watched).is_floor(amount, value)
