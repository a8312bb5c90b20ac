"""Budgets: what stocks of all sizes cost, and which sizes a budget or a reward allows."""

from keptparts.covers import demand_of
from keptparts.notes import check_notes
from keptparts.steps import behind
from keptparts.waiting import check_count
from keptparts.walks import cheapest_walk, price_in, world_of


def sized_stocks(market, prices):
    """A cheapest stock of each size from 0 to the strength; not checked.

    Each one comes from the one before by a cheapest growing way.
    """
    found = [()]
    walk = growing_walk(market, 0, prices, ())
    while walk is not None:
        outs, ins = walk[1]
        found.append(behind(found[-1], outs, ins))
        walk = growing_walk(market, len(found) - 1, prices, found[-1])
    return found


def growing_walk(market, number, prices, chosen):
    """The price and the move of a cheapest growing way of a cheapest stock, None if there is none."""
    return cheapest_walk(market, demand_of(market, number), prices, chosen, (0, market.size))


def size_prices(market, prices):
    """The least prices of stocks of the sizes from 0 to the strength; not checked."""
    return [price_in(prices, stock) for stock in sized_stocks(market, prices)]


def size_within(costs, budget):
    """The greatest size that costs at most the budget."""
    return max([number for number, cost in enumerate(costs) if cost <= budget])


def cost_steps(market, world):
    """By how much each size from 1 to the strength is dearer than the one below it."""
    costs = size_prices(market, world_of(market, world))
    return [costs[number] - costs[number - 1] for number in range(1, len(costs))]


def greatest_size(market, world, budget):
    """The greatest size that can be had for the budget."""
    prices = world_of(market, world)
    check_count("budget", budget)
    return size_within(size_prices(market, prices), budget)


def sized_stock(market, world, budget):
    """A cheapest stock of the greatest size that can be had for the budget."""
    prices = world_of(market, world)
    check_count("budget", budget)
    stocks = sized_stocks(market, prices)
    return stocks[size_within([price_in(prices, stock) for stock in stocks], budget)]


def best_sizes(market, world, reward):
    """The ascending list of the sizes that are best if each cover is worth the reward."""
    prices = world_of(market, world)
    check_count("reward", reward)
    balances = [cost - number * reward for number, cost in enumerate(size_prices(market, prices))]
    lowest = min(balances)
    return [number for number, balance in enumerate(balances) if balance == lowest]


def sizes_for(market, notes, budget):
    """The greatest size that the budget surely buys, and the greatest one that it may buy."""
    check_count("budget", budget)
    check_notes(market, notes)
    return tuple([size_within(size_prices(market, prices), budget) for prices in (notes.highs, notes.lows)])
