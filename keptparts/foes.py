"""Foes: which losses make a stock of one size, or of one demand, as dear as can be."""

from keptparts.amounts import at_most, plus
from keptparts.cheapest import needed_stock
from keptparts.covers import changed, demand_of
from keptparts.errors import NoParts, TooMany
from keptparts.flows import cheapest_of
from keptparts.losing import by_tables
from keptparts.notes import check_notes
from keptparts.sets import both, minus, subsets
from keptparts.waiting import check_count
from keptparts.walks import cheapest_walk, price_in, world_of

MOST_SETS = 500


def worst_loss(market, number, world, losses):
    """The loss of at most so many parts behind which a stock of this size costs most, and what it costs."""
    check_count("number", number)
    prices = world_of(market, world)
    check_count("losses", losses)
    check_sets(len(market.there()), losses)
    return dearest_loss(market, demand_of(market, number), prices, losses)


def worst_at(market, number, notes, losses):
    """The same over all agreeing worlds: each price is then at its high end."""
    check_count("number", number)
    check_count("losses", losses)
    check_notes(market, notes)
    check_sets(len(market.there()), losses)
    return dearest_loss(market, demand_of(market, number), notes.highs, losses)


def check_sets(many, losses):
    """Raise TooMany if there are more sets of at most so many of the parts than can be gone through."""
    number = 1
    of_size = 1
    for size in range(min(many, losses)):
        of_size = of_size * (many - size) // (size + 1)
        number += of_size
    if number > MOST_SETS:
        raise TooMany(number)


def dearest_loss(market, wanted, prices, losses):
    """The worst loss of at most so many parts, and the price behind it; not checked.

    Each cheapest stock is led on from the one behind the same loss without its last part.
    """
    there = market.there()
    stocks = {(): cheapest_of(market, wanted, prices)}
    worst = ()
    for lost in subsets(there):
        if len(lost) > losses or stocks[worst] is None:
            break
        if lost:
            stocks[lost] = stock_behind(market, wanted, prices, lost, stocks[lost[:-1]])
        if stocks[lost] is None or price_in(prices, stocks[lost]) > price_in(prices, stocks[worst]):
            worst = lost
    return worst, None if stocks[worst] is None else price_in(prices, stocks[worst])


def stock_behind(market, wanted, prices, lost, chosen):
    """A cheapest stock behind a loss, from one that is cheapest before its last part is lost; None if there is none."""
    part = lost[-1]
    if part not in chosen:
        return chosen
    run = market.runs[part]
    rest = minus(chosen, (part,))
    walk = cheapest_walk(market.lose(lost), changed(market, wanted, run, -1), prices, rest, run)
    if walk is None:
        return None
    outs, ins = walk[1]
    return both(minus(rest, outs), ins)


def worst_part(market, demand, world):
    """The least part whose loss makes a cheapest stock dearest, and what that stock costs."""
    wanted = demand_of(market, demand)
    prices = world_of(market, world)
    price = price_in(prices, needed_stock(market, wanted, prices))
    there = market.there()
    if not there:
        raise NoParts()
    losses = by_tables(market, wanted, prices)
    worst = there[0]
    for part in there:
        if not at_most(losses[part], losses[worst]):
            worst = part
    return worst, plus(price, losses[worst])
