"""Strangers: runs that are offered as one part more."""

from keptparts.cheapest import least_price, needed_stock
from keptparts.checks import is_count
from keptparts.covers import demand_of
from keptparts.errors import BadNumber
from keptparts.markets import check_run
from keptparts.walks import cheapest_walk, world_of


def entry(market, demand, world, run):
    """LESS of the run: up to which price a stranger over it is in some cheapest stock."""
    wanted = demand_of(market, demand)
    prices = world_of(market, world)
    begin, end = check_run(market, run)
    stock = needed_stock(market, wanted, prices)
    walk = cheapest_walk(market, wanted, prices, stock, (end, begin))
    return None if walk is None else -walk[0]


def price_with(market, demand, world, run, price):
    """The least price of a stock of the market with one stranger, an amount."""
    wanted = demand_of(market, demand)
    prices = world_of(market, world)
    offered = check_run(market, run)
    check_price("price", price)
    return least_price(market.and_run(offered), wanted, (*prices, price))


def price_with_two(market, demand, world, run, price, other_run, other_price):
    """The least price of a stock of the market with two strangers, an amount."""
    wanted = demand_of(market, demand)
    prices = world_of(market, world)
    offered = check_run(market, run)
    check_price("price", price)
    also_offered = check_run(market, other_run)
    check_price("other_price", other_price)
    whole = market.and_run(offered).and_run(also_offered)
    return least_price(whole, wanted, (*prices, price, other_price))


def check_price(name, price):
    """Raise BadNumber with the name if the price is not an integer of at least 0."""
    if not is_count(price):
        raise BadNumber(name)
