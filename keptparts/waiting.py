"""Waiting: buying behind a loss, and buying more ahead of it."""

from keptparts.amounts import gap
from keptparts.cheapest import least_price
from keptparts.checks import is_count
from keptparts.covers import demand_of
from keptparts.errors import BadNumber
from keptparts.losing import lost_parts
from keptparts.walks import world_of


class Wait:
    """Tells what a cheapest stock of one size costs behind a loss."""

    def __init__(self, market, world, number):
        self.market = market
        self.world = world_of(market, world)
        check_count("number", number)
        self.number = number

    def __call__(self, loss):
        rest = self.market.lose(lost_parts(self.market, loss))
        return size_price(rest, self.number, self.world)


def check_count(name, number):
    """Raise BadNumber with the name if the number is not an integer of at least 0."""
    if not is_count(number):
        raise BadNumber(name)


def size_price(market, number, prices):
    """The least price of a stock of this size, an amount; the prices are not checked."""
    return least_price(market, demand_of(market, number), prices)


def ahead(market, world, number, losses):
    """The least price of a stock that bears so many losses more than the number asks for, an amount."""
    prices = world_of(market, world)
    check_count("number", number)
    check_count("losses", losses)
    return size_price(market, number + losses, prices)


def bound(market, world, number, losses):
    """What a stock of the number that is bought behind so many losses costs at most, None if nothing is known."""
    most = ahead(market, world, number, losses)
    if most is None:
        return None
    return gap(most, size_price(market, losses, world_of(market, world)))
