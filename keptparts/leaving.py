"""Parts that larger stocks give back or bring in, and the births of parts, for the kind join."""

from keptparts.budgets import sized_stocks
from keptparts.covers import demand_of
from keptparts.growing import check_below, stocks_that_grow
from keptparts.lengths import length_prices
from keptparts.markets import check_join, part_there
from keptparts.rings import check_few
from keptparts.sets import both
from keptparts.walks import walk_prices, world_of


def left_behind(market, number):
    """The set of the parts that are outs of growing ways of stocks of this size."""
    return sides_of_ways(market, number)[0]


def brought_in(market, number):
    """The set of the parts that are ins of growing ways of stocks of this size."""
    return sides_of_ways(market, number)[1]


def sides_of_ways(market, number):
    """All outs and all ins of growing ways of stocks of this size."""
    check_join(market)
    check_below(market, number)
    check_few(market)
    left = ()
    brought = ()
    for _, outs, ins in stocks_that_grow(market, number):
        left = both(left, outs)
        brought = both(brought, ins)
    return left, brought


def leaving_world(market, number, part):
    """A world in which all cheapest stocks of this size have the part and none of the next size has it."""
    check_join(market)
    check_below(market, number)
    part_there(market, part)
    check_few(market)
    for stock, outs, ins in stocks_that_grow(market, number):
        if part in outs:
            return length_prices(market, stock, outs + ins)
    return None


def births(market, world):
    """For each part the least size of which some cheapest stock has it, None if there is none."""
    check_join(market)
    prices = world_of(market, world)
    born = [None] * market.many
    for number, stock in enumerate(sized_stocks(market, prices)):
        walks = walk_prices(market, demand_of(market, number), prices, stock)
        for part in market.there():
            begin, end = market.runs[part]
            back = walks[end][begin]
            # A part outside is in another cheapest stock if a ring with it costs nothing.
            if born[part] is None and (part in stock or back is not None and prices[part] + back == 0):
                born[part] = number
    return tuple(born)
