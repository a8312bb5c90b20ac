"""Blows to a size, and the asks that show a least price."""

from keptparts.checks import is_whole, is_within
from keptparts.covers import demand_of
from keptparts.cuts import strength
from keptparts.errors import BadNumber
from keptparts.notes import check_notes
from keptparts.sets import set_of
from keptparts.stocks import any_stock
from keptparts.waiting import check_count, size_price
from keptparts.walks import world_of


def check_size(number):
    """Raise BadNumber if the number is not an integer; it may be below 0."""
    if not is_whole(number):
        raise BadNumber("number")


def shown_price(market, number, notes):
    """What a stock of this size surely costs at least, None if there is none."""
    check_size(number)
    check_notes(market, notes)
    return size_price(market, number, notes.lows)


def shows_price(market, number, notes, world, parts, price):
    """Whether a stock of this size surely costs at least the price, once the parts are asked in the world."""
    check_size(number)
    prices = world_of(market, world)
    asked = set_of(market.many, parts)
    check_count("price", price)
    check_notes(market, notes)
    shown = size_price(market, number, notes.after(asked, prices).lows)
    return shown is None or shown >= price


def free_stock(market, number, parts):
    """A stock of this size without any of the parts, None if there is none."""
    check_size(number)
    barred = set_of(market.many, parts)
    return any_stock(market.lose(barred), demand_of(market, number))


def fewest_shown(market, number):
    """How many prices must be asked at least to show a price of a stock of this size."""
    greatest = strength(market)
    if not is_within(number, 1, greatest):
        raise BadNumber("number")
    return greatest - number + 1
