"""Verdicts: whether a part is in all, some or none of the cheapest stocks."""

from keptparts.covers import check_stock, demand_of
from keptparts.critical import check_dozen, price_span, threshold
from keptparts.cuts import state_of
from keptparts.errors import NotSafe
from keptparts.markets import part_there
from keptparts.notes import check_notes
from keptparts.sets import set_of
from keptparts.tables import Table
from keptparts.walks import lowering_ring, world_of


def verdict_in(market, demand, world, part):
    """Whether "all", "some" (and not all) or "none" of the cheapest stocks have the part."""
    wanted = demand_of(market, demand)
    prices = world_of(market, world)
    part_there(market, part)
    table = Table(market, wanted, prices)
    if table.stays(part):
        return "all"
    return "some" if table.enters(part) else "none"


def four(market, demand, notes, part):
    """The four verdicts: in every, in some cheapest stock of every, and the same of some agreeing world."""
    wanted = demand_of(market, demand)
    part_there(market, part)
    check_notes(market, notes)
    state = state_of(market, wanted, part)
    check_dozen(market)
    if state != "loose":
        return (state == "firm",) * 4
    least_end, greatest_end = price_span(market, wanted, notes, part)
    return four_between(notes.stretches[part], least_end[0], greatest_end[0])


def safe_four(market, demand, notes, stock, part):
    """The four verdicts beside a safe stock."""
    wanted = demand_of(market, demand)
    chosen = set_of(market.many, stock)
    part_there(market, part)
    check_notes(market, notes)
    check_stock(market, wanted, chosen)
    check_safe(market, wanted, notes, chosen)
    state = state_of(market, wanted, part)
    if state != "loose":
        return (state == "firm",) * 4
    at_high = threshold(market, wanted, notes.high_on(chosen), part)
    at_low = threshold(market, wanted, notes.low_on(chosen), part)
    if part in chosen:
        return four_between(notes.stretches[part], at_high, at_low)
    return four_between(notes.stretches[part], at_low, at_high)


def check_safe(market, wanted, notes, chosen):
    """Raise NotSafe with a ring that can lower the price, if there is one."""
    move = lowering_ring(market, wanted, notes.high_on(chosen), chosen)
    if move is not None:
        raise NotSafe(move[0], move[1])


def four_between(stretch, bottom, top):
    """The four verdicts on a loose part from its stretch and the ends of its critical price."""
    low, high = stretch
    return high < bottom, high <= bottom, low < top, low <= top
