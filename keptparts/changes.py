"""Changes of prices: which ones a stock bears, and what they cost at most."""

from keptparts.amounts import at_most, gap, least
from keptparts.checks import is_row, prices_of
from keptparts.covers import check_stock, demand_of
from keptparts.errors import BadWorld
from keptparts.notes import Notes, replaced
from keptparts.sets import set_of
from keptparts.waiting import check_count
from keptparts.walks import check_cheapest, lowering_ring, walk_prices, world_of


def room(market, demand, world, stock):
    """The greatest total change that the stock bears, None if it bears every one."""
    return width_and_part(cheapest_case(market, demand, world, stock))[0]


def weakest(market, demand, world, stock):
    """The least part of the stock whose loss costs as little as the room, None if the room is None."""
    return width_and_part(cheapest_case(market, demand, world, stock))[1]


def cheapest_case(market, demand, world, stock):
    """Market, demand, prices and a stock that is cheapest, all of them checked."""
    wanted = demand_of(market, demand)
    prices = world_of(market, world)
    chosen = check_stock(market, wanted, stock)
    check_cheapest(market, wanted, prices, chosen)
    return market, wanted, prices, chosen


def counted_case(market, demand, world, stock, name, number):
    """The same, with a number that is checked behind the form of the stock."""
    wanted = demand_of(market, demand)
    prices = world_of(market, world)
    chosen = set_of(market.many, stock)
    check_count(name, number)
    return cheapest_case(market, wanted, prices, chosen)


def width_and_part(case):
    """The room of the stock, and the least part that sets it."""
    market, wanted, prices, chosen = case
    walks = walk_prices(market, wanted, prices, chosen)
    runs = [market.runs[part] for part in chosen]
    losses = [gap(walks[begin][end], prices[part]) for part, (begin, end) in zip(chosen, runs)]
    width = least(losses)
    return width, None if width is None else chosen[losses.index(width)]


def bears_change(market, demand, world, stock, total):
    """Whether the stock is cheapest in every world with at most this total change."""
    case = counted_case(market, demand, world, stock, "total", total)
    return at_most(total, width_and_part(case)[0])


def worst_change(market, demand, world, stock, total):
    """A world with at most this total change in which the stock is as much too dear as can be."""
    case = counted_case(market, demand, world, stock, "total", total)
    prices = case[2]
    part = width_and_part(case)[1]
    return prices if part is None else replaced(prices, part, prices[part] + total)


def regret_under(market, demand, world, stock, total):
    """By how much the stock is too dear at most in a world with at most this total change."""
    case = counted_case(market, demand, world, stock, "total", total)
    width = width_and_part(case)[0]
    return 0 if width is None else max(0, total - width)


def near(world, number):
    """The notes in which each price may be so much lower or higher than in the world."""
    if not is_row(world):
        raise BadWorld(-1)
    prices = prices_of(len(world), world)
    check_count("number", number)
    return Notes([(max(0, price - number), price + number) for price in prices])


def bears_each(market, demand, world, stock, number):
    """Whether the stock is cheapest in every world that agrees with the notes near this one."""
    return is_safe_near(counted_case(market, demand, world, stock, "number", number), number)


def is_safe_near(case, number):
    """Whether the stock is safe at the notes near the world."""
    market, wanted, prices, chosen = case
    return lowering_ring(market, wanted, near(prices, number).high_on(chosen), chosen) is None


def side_room(market, demand, world, stock):
    """The greatest number by which every price may be another one, None if there is no greatest one."""
    case = cheapest_case(market, demand, world, stock)
    above = width_and_part(case)[0]
    if above is None:
        return None
    below = 0
    while below < above:
        middle = (below + above + 1) // 2
        if is_safe_near(case, middle):
            below = middle
        else:
            above = middle - 1
    return below
