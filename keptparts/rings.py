"""Rings and walks of a stock, told and listed by their moves."""

from keptparts.checks import point_pair
from keptparts.covers import check_stock, demand_of
from keptparts.errors import TooMany
from keptparts.loops import forms_ring
from keptparts.sets import common, minus, set_of, subsets
from keptparts.steps import free_places

MOST_PARTS = 10


def is_ring(market, demand, stock, outs, ins):
    """Whether the two sets are the outs and the ins of some ring of the stock."""
    wanted = demand_of(market, demand)
    chosen = set_of(market.many, stock)
    out_parts = set_of(market.many, outs)
    in_parts = set_of(market.many, ins)
    check_stock(market, wanted, chosen)
    if not can_move(market, chosen, out_parts, in_parts):
        return False
    return closes(market, free_places(market, wanted, chosen), [], (out_parts, in_parts))


def is_walk(market, demand, stock, run, outs, ins):
    """Whether the two sets are the outs and the ins of some walk between the two points."""
    wanted = demand_of(market, demand)
    chosen = set_of(market.many, stock)
    first, last = point_pair(market, run)
    out_parts = set_of(market.many, outs)
    in_parts = set_of(market.many, ins)
    check_stock(market, wanted, chosen)
    if first == last:
        return out_parts == () and in_parts == ()
    if not can_move(market, chosen, out_parts, in_parts):
        return False
    return closes(market, free_places(market, wanted, chosen), [(last, first)], (out_parts, in_parts))


def can_move(market, chosen, outs, ins):
    """Whether the outs are in the stock, and the ins neither in it nor gone."""
    return common(outs, chosen) == outs and not common(ins, chosen) and not common(ins, market.gone)


def closes(market, free, arcs, move):
    """Whether a move, together with the arcs that are told, is a closed row of steps."""
    outs, ins = move
    steps = [market.runs[part] for part in ins]
    for part in outs:
        begin, end = market.runs[part]
        steps.append((end, begin))
    return forms_ring(market, free, arcs + steps)


def check_few(market):
    """Raise TooMany if more parts are there than can be gone through."""
    number = len(market.there())
    if number > MOST_PARTS:
        raise TooMany(number)


def rings(market, demand, stock):
    """Yield the moves of all rings of the stock, in ascending order."""
    wanted = demand_of(market, demand)
    chosen = check_stock(market, wanted, stock)
    check_few(market)
    free = free_places(market, wanted, chosen)
    for move in moves_from(market, chosen):
        if closes(market, free, [], move):
            yield move


def growing_ways(market, demand, stock):
    """Yield the moves of all growing ways of the stock, in ascending order."""
    wanted = demand_of(market, demand)
    chosen = check_stock(market, wanted, stock)
    check_few(market)
    free = free_places(market, wanted, chosen)
    for move in moves_from(market, chosen):
        if closes(market, free, [(market.size, 0)], move):
            yield move


def walks_between(market, demand, stock, run):
    """The ascending list of the moves of all walks between the two points."""
    wanted = demand_of(market, demand)
    chosen = set_of(market.many, stock)
    first, last = point_pair(market, run)
    check_stock(market, wanted, chosen)
    check_few(market)
    if first == last:
        return [((), ())]
    free = free_places(market, wanted, chosen)
    return [move for move in moves_from(market, chosen) if closes(market, free, [(last, first)], move)]


def moves_from(market, chosen):
    """All pairs of a set within the stock and a set of parts outside, in ascending order."""
    others = minus(market.there(), chosen)
    all_outs = sorted(list(subsets(chosen)))
    all_ins = sorted(list(subsets(others)))
    return [(outs, ins) for outs in all_outs for ins in all_ins]
