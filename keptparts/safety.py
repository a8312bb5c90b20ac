"""Safe stocks: those that are cheapest in every agreeing world."""

from keptparts.cheapest import needed_stock
from keptparts.covers import check_stock, demand_of
from keptparts.flows import spread
from keptparts.heights import heights_for
from keptparts.notes import check_notes
from keptparts.sets import set_of
from keptparts.steps import BARE
from keptparts.walks import arcs_of, lowering_ring


def noted_stock(market, demand, notes, stock):
    """The demand and the stock, checked together with the notes."""
    wanted = demand_of(market, demand)
    chosen = set_of(market.many, stock)
    check_notes(market, notes)
    return wanted, check_stock(market, wanted, chosen)


def is_safe(market, demand, notes, stock):
    """Whether the stock is cheapest in every agreeing world."""
    return unsafe_ring(market, demand, notes, stock) is None


def safe_heights(market, demand, notes, stock):
    """Some heights that fit the stock in every agreeing world, None if it is not safe."""
    wanted, chosen = noted_stock(market, demand, notes, stock)
    return heights_for(market, wanted, notes.high_on(chosen), chosen)


def unsafe_ring(market, demand, notes, stock):
    """A ring whose outs can cost more than its ins, None if the stock is safe."""
    wanted, chosen = noted_stock(market, demand, notes, stock)
    return lowering_ring(market, wanted, notes.high_on(chosen), chosen)


def safe_stock(market, demand, notes):
    """A safe stock of the demand, None if there is none."""
    wanted = demand_of(market, demand)
    check_notes(market, notes)
    # Stocks are compared by their lowest prices, and only equal ones by their highest prices.
    much = sum(notes.highs) + 1
    ranks = [low * much + high for low, high in notes.stretches]
    chosen = needed_stock(market, wanted, ranks)
    if lowering_ring(market, wanted, notes.high_on(chosen), chosen) is not None:
        return None
    return chosen


def only_possible(market, demand, notes, stock):
    """Whether the stock is the only possible stock of its demand."""
    wanted, chosen = noted_stock(market, demand, notes, stock)
    return not has_free_ring(market, wanted, notes.high_on(chosen), chosen)


def has_free_ring(market, wanted, prices, chosen):
    """Whether some ring has a price of at most 0; the stock is not checked."""
    points = market.size + 1
    # A ring has at most as many parts as there are points: 1 less for each of them makes just
    # those rings negative that cost at most 0.
    much = points + 1
    arcs = []
    for start, end, part, price in arcs_of(market, wanted, prices, chosen):
        arcs.append((start, end, part, price * much if part == BARE else price * much - 1))
    return spread(points, arcs, list(range(points)))[2] is not None
