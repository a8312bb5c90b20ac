"""Cheapest stocks of a demand."""

from keptparts.covers import check_stock, demand_of
from keptparts.errors import NoStock
from keptparts.flows import cheapest_of
from keptparts.stocks import stocks_of
from keptparts.walks import lowering_ring, price_in, world_of


def cheapest(market, demand, world):
    """A cheapest stock of the demand, None if it has no stock."""
    wanted = demand_of(market, demand)
    return cheapest_of(market, wanted, world_of(market, world))


def price_of(market, demand, world):
    """The least price of a stock of the demand, an amount."""
    wanted = demand_of(market, demand)
    return least_price(market, wanted, world_of(market, world))


def least_price(market, wanted, prices):
    """The least price of a stock of a demand, an amount; not checked."""
    stock = cheapest_of(market, wanted, prices)
    if stock is None:
        return None
    return price_in(prices, stock)


def needed_stock(market, wanted, prices):
    """A cheapest stock of a demand that must have one; the arguments are not checked."""
    stock = cheapest_of(market, wanted, prices)
    if stock is None:
        raise NoStock()
    return stock


def is_cheapest(market, demand, world, stock):
    """Whether the stock is cheapest."""
    wanted = demand_of(market, demand)
    prices = world_of(market, world)
    chosen = check_stock(market, wanted, stock)
    return lowering_ring(market, wanted, prices, chosen) is None


def cheapest_stocks(market, demand, world):
    """The ascending list of all cheapest stocks of the demand."""
    wanted = demand_of(market, demand)
    prices = world_of(market, world)
    stocks = stocks_of(market, wanted)
    lowest = min([price_in(prices, stock) for stock in stocks], default=None)
    return [stock for stock in stocks if price_in(prices, stock) == lowest]
