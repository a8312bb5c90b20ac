"""Possible stocks: those that are cheapest in some agreeing world."""

from keptparts.covers import check_stock, demand_of, is_stock_of
from keptparts.differences import split_rings
from keptparts.errors import NotPossible
from keptparts.heights import heights_for
from keptparts.notes import check_notes, replaced
from keptparts.rings import check_few
from keptparts.safety import noted_stock
from keptparts.sets import set_of
from keptparts.shifts import ring_after
from keptparts.steps import behind
from keptparts.stocks import check_has_stock, stocks_of
from keptparts.walks import lowering_ring


def is_possible(market, demand, notes, stock):
    """Whether the stock is cheapest in some agreeing world."""
    wanted, chosen = noted_stock(market, demand, notes, stock)
    return can_be_cheapest(market, wanted, notes, chosen)


def can_be_cheapest(market, wanted, notes, chosen):
    """Whether a stock that is not checked is possible."""
    return lowering_ring(market, wanted, notes.low_on(chosen), chosen) is None


def possible_heights(market, demand, notes, stock):
    """Some heights that fit the stock when it is as cheap as it can be, None if it is not possible."""
    wanted, chosen = noted_stock(market, demand, notes, stock)
    return heights_for(market, wanted, notes.low_on(chosen), chosen)


def possible_stocks(market, demand, notes):
    """The ascending list of all possible stocks of the demand."""
    wanted = demand_of(market, demand)
    check_notes(market, notes)
    check_has_stock(market, wanted)
    check_few(market)
    return possible_among(market, wanted, notes, stocks_of(market, wanted))


def possible_among(market, wanted, notes, stocks):
    """Those of some stocks that are possible.

    A ring that bars one stock bars each other one that it can be taken from: that is looked at first.
    """
    found = []
    moves = []
    for stock in stocks:
        if not any([can_be_taken(market, wanted, stock, move) for move in moves]):
            move = lowering_ring(market, wanted, notes.low_on(stock), stock)
            if move is None:
                found.append(stock)
            else:
                moves.append(move)
    return found


def can_be_taken(market, wanted, chosen, move):
    """Whether a stock has all outs of a move, and is a stock behind it; ins that it has already cost nothing more."""
    outs, ins = move
    if not all([part in chosen for part in outs]):
        return False
    return is_stock_of(market, wanted, behind(chosen, outs, ins))


def trail(market, demand, notes, one, other):
    """Possible stocks from one to another, each one ring away from the one before."""
    wanted = demand_of(market, demand)
    first = set_of(market.many, one)
    last = set_of(market.many, other)
    check_notes(market, notes)
    check_stock(market, wanted, first)
    check_stock(market, wanted, last)
    check_possible(market, wanted, notes, first)
    check_possible(market, wanted, notes, last)
    found = changed_stocks(market, wanted, notes, first, last)
    # All of these rings cost nothing where the last stock is cheapest: so is each stock on the way.
    moves = split_rings(market, wanted, found[-1], last)
    for outs, ins in moves:
        found.append(behind(found[-1], outs, ins))
    return found


def check_possible(market, wanted, notes, chosen):
    """Raise NotPossible if the stock is not possible."""
    if not can_be_cheapest(market, wanted, notes, chosen):
        raise NotPossible(chosen)


def changed_stocks(market, wanted, notes, first, last):
    """Possible stocks, from the first one to one that is cheapest where the last one is.

    One price after the other is changed from what is best for the first stock to what is best
    for the last one. Each change needs at most one ring.
    """
    prices = notes.low_on(first)
    goal = notes.low_on(last)
    found = [first]
    for part in market.there():
        move = ring_after(market, wanted, prices, found[-1], part, goal[part])
        if move is not None:
            found.append(behind(found[-1], move[0], move[1]))
        prices = replaced(prices, part, goal[part])
    return found
