"""Regrets: how much too dear a stock is or can be, and which least prices there can be."""

from keptparts.cheapest import least_price, needed_stock
from keptparts.checks import is_whole
from keptparts.covers import check_stock, covered, demand_of
from keptparts.errors import BadNumber
from keptparts.heights import check_rising, check_row, heights_for
from keptparts.notes import check_notes, replaced
from keptparts.safety import noted_stock
from keptparts.sets import set_of
from keptparts.shifts import ring_after
from keptparts.steps import behind
from keptparts.stocks import check_has_stock
from keptparts.walks import price_in, world_of


def regret_in(market, demand, world, stock):
    """How much dearer the stock is in the world than a cheapest one."""
    wanted = demand_of(market, demand)
    prices = world_of(market, world)
    chosen = check_stock(market, wanted, stock)
    return price_in(prices, chosen) - least_price(market, wanted, prices)


def regret(market, demand, notes, stock):
    """The greatest regret of the stock in an agreeing world."""
    wanted, chosen = noted_stock(market, demand, notes, stock)
    return regret_in(market, wanted, notes.high_on(chosen), chosen)


def misfit(market, demand, notes, stock, heights):
    """By how much the heights fail to fit the stock in every agreeing world."""
    wanted = demand_of(market, demand)
    chosen = set_of(market.many, stock)
    check_row(market, heights)
    check_rising(market, heights)
    check_notes(market, notes)
    check_stock(market, wanted, chosen)
    worths = heights.worths(market)
    levels = heights.levels
    counts = covered(market, chosen)
    lacks = [max(0, notes.highs[part] - worths[part]) for part in chosen]
    others = [part for part in market.there() if part not in chosen]
    excesses = [max(0, worths[part] - notes.lows[part]) for part in others]
    rises = [(counts[j] - wanted[j]) * (levels[j + 1] - levels[j]) for j in range(market.size)]
    return sum(lacks) + sum(excesses) + sum(rises)


def least_misfit(market, demand, notes, stock):
    """Some heights with the least misfit."""
    wanted, chosen = noted_stock(market, demand, notes, stock)
    prices = notes.high_on(chosen)
    return heights_for(market, wanted, prices, needed_stock(market, wanted, prices))


def price_ends(market, demand, notes):
    """The least prices of a stock in the worlds of all low and of all high ends."""
    wanted = demand_of(market, demand)
    check_notes(market, notes)
    check_has_stock(market, wanted)
    return least_price(market, wanted, notes.lows), least_price(market, wanted, notes.highs)


def world_at(market, demand, notes, number):
    """An agreeing world in which a cheapest stock costs the number, None if there is none."""
    wanted = demand_of(market, demand)
    if not is_whole(number):
        raise BadNumber("number")
    check_notes(market, notes)
    prices = notes.lows
    chosen = needed_stock(market, wanted, prices)
    price = price_in(prices, chosen)
    if price >= number:
        return prices if price == number else None
    for part in market.there():
        high = notes.highs[part]
        move = ring_after(market, wanted, prices, chosen, part, high)
        if move is not None:
            chosen = behind(chosen, move[0], move[1])
        risen = replaced(prices, part, high)
        if price_in(risen, chosen) >= number:
            # The least price rises as one price does, until it rises no more.
            return replaced(prices, part, prices[part] + number - price)
        prices = risen
        price = price_in(prices, chosen)
    return None
