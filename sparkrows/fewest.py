"""The fewest starters: the least sum at which all seats of an open web are won, and what shows it."""

from sparkrows.errors import BadPrices, ClosedWeb
from sparkrows.fronts import first_front
from sparkrows.layers import Passage, are_prices, starter_layers


def is_prices(web, value):
    """Whether any value is prices for the web's stretch."""
    return are_prices(web.stretch, value)


def _passage(web, prices):
    """The way through a web at some prices, if these are such; else raises the error that is due."""
    if web.closed:
        raise ClosedWeb()
    if not is_prices(web, prices):
        raise BadPrices(prices)
    width = web.stretch.frame.width
    return Passage(width, starter_layers(web.stretch, prices), first_front(width), True)


def fewest(web, prices):
    """The least sum of a lot with which all are won, and such a lot; None if there is none."""
    return _passage(web, prices).cheapest()


def floor(web, prices):
    """A floor for the least sum, for None if there is none."""
    return _passage(web, prices).floor()


def holds_floor(web, prices, amount, value):
    """Whether any two values are an amount, or None, and a floor for it."""
    return _passage(web, prices).is_floor(amount, value)
