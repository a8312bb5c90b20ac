"""Worlds and prices: rings that lower a price, and cheapest walks."""

from keptparts.checks import point_pair, prices_of
from keptparts.covers import check_stock, demand_of
from keptparts.errors import NotCheapest
from keptparts.flows import priced, round_before, row_to, spread
from keptparts.sets import set_of
from keptparts.steps import free_places, move_of, steps_from


def world_of(market, world):
    """The world as a tuple of prices."""
    return prices_of(market.many, world)


def price_in(prices, parts):
    """The sum of the prices of a set of parts; not checked."""
    return sum([prices[part] for part in parts])


def move_price(market, world, outs, ins):
    """The price of a move: that of the ins less that of the outs."""
    prices = world_of(market, world)
    out_parts = set_of(market.many, outs)
    in_parts = set_of(market.many, ins)
    return price_in(prices, in_parts) - price_in(prices, out_parts)


def arcs_of(market, wanted, prices, chosen):
    """The steps of a stock with their prices; not checked."""
    return priced(steps_from(market, chosen, free_places(market, wanted, chosen)), prices)


def cheaper_ring(market, demand, world, stock):
    """A ring of the stock with a price below 0, None if there is none."""
    wanted = demand_of(market, demand)
    prices = world_of(market, world)
    chosen = check_stock(market, wanted, stock)
    return lowering_ring(market, wanted, prices, chosen)


def lowering_ring(market, wanted, prices, chosen):
    """A ring with a price below 0 of a stock that is not checked, None if there is none."""
    points = market.size + 1
    _, last, lowered = spread(points, arcs_of(market, wanted, prices, chosen), list(range(points)))
    if lowered is None:
        return None
    return move_of(round_before(last, lowered))


def check_cheapest(market, wanted, prices, chosen):
    """Raise NotCheapest with a ring that lowers the price, if there is one."""
    move = lowering_ring(market, wanted, prices, chosen)
    if move is not None:
        raise NotCheapest(move[0], move[1])


def distances(market, demand, world, stock):
    """The least prices of walks of a cheapest stock from each point to each point."""
    wanted = demand_of(market, demand)
    prices = world_of(market, world)
    chosen = check_stock(market, wanted, stock)
    check_cheapest(market, wanted, prices, chosen)
    return walk_prices(market, wanted, prices, chosen)


def walk_prices(market, wanted, prices, chosen):
    """The least prices of walks from each point to each point; the stock is cheapest, not checked."""
    points = market.size + 1
    arcs = arcs_of(market, wanted, prices, chosen)
    return tuple([tuple(spread(points, arcs, [point])[0]) for point in range(points)])


def shortest_walk(market, demand, world, stock, run):
    """The price and the move of a cheapest walk between two points, None if there is none."""
    wanted = demand_of(market, demand)
    prices = world_of(market, world)
    chosen = set_of(market.many, stock)
    first, goal = point_pair(market, run)
    check_stock(market, wanted, chosen)
    check_cheapest(market, wanted, prices, chosen)
    return cheapest_walk(market, wanted, prices, chosen, (first, goal))


def cheapest_walk(market, wanted, prices, chosen, run):
    """The price and the move of a cheapest walk, None if there is none; the stock is cheapest, not checked."""
    first, goal = run
    reached, last, _ = spread(market.size + 1, arcs_of(market, wanted, prices, chosen), [first])
    if reached[goal] is None:
        return None
    return reached[goal], move_of(row_to(last, goal))
