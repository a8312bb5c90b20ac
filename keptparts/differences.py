"""The change from one stock to another, split into rings and walks."""

from keptparts.checks import is_within, point_pair
from keptparts.covers import changed, check_stock, covered, demand_of
from keptparts.errors import BadNumber
from keptparts.loops import closed_rows
from keptparts.markets import is_lap
from keptparts.sets import minus, set_of
from keptparts.steps import BARE, move_of

MOST_WAYS = 50

# A step that stands for the way back from the last point of a walk to its first one.
WAY_BACK = -2


def split_rings(market, demand, stock, other):
    """Moves of rings that together lead from the stock to the other one."""
    wanted = demand_of(market, demand)
    chosen = set_of(market.many, stock)
    target = set_of(market.many, other)
    check_stock(market, wanted, chosen)
    check_stock(market, wanted, target)
    return split(market, change_steps(market, (wanted, chosen), (wanted, target)))[1]


def split_run(market, demand, run, stock, other):
    """The move of a walk between the points of the run, and moves of rings."""
    wanted = demand_of(market, demand)
    first, last = point_pair(market, run)
    chosen = set_of(market.many, stock)
    target = set_of(market.many, other)
    check_stock(market, wanted, chosen)
    demanded = demand_behind(market, wanted, first, last)
    check_stock(market, demanded, target)
    steps = change_steps(market, (wanted, chosen), (demanded, target))
    if first == last:
        return ((), ()), split(market, steps)[1]
    walks, moves = split(market, steps + [(last, first, WAY_BACK)])
    return walks[0], moves


def demand_behind(market, wanted, first, last):
    """The demand of the stocks behind a walk from the first point to the last."""
    if first < last:
        return changed(market, wanted, (first, last), 1)
    if first > last:
        return changed(market, wanted, (last, first), -1)
    return wanted


def split_sizes(market, demand, number, stock, other):
    """Moves of number growing ways, and moves of rings."""
    wanted = demand_of(market, demand)
    if not is_within(number, 0, MOST_WAYS):
        raise BadNumber("number")
    chosen = set_of(market.many, stock)
    target = set_of(market.many, other)
    check_stock(market, wanted, chosen)
    demanded = changed(market, wanted, (0, market.size), number)
    check_stock(market, demanded, target)
    steps = change_steps(market, (wanted, chosen), (demanded, target))
    return split(market, steps + [(market.size, 0, WAY_BACK)] * number)


def change_steps(market, before, after):
    """The steps that lead from one stock to another, told as pairs (demand, stock).

    In a lap market the bare steps make up for what the places are covered too often.
    """
    steps = []
    for part in minus(before[1], after[1]):
        begin, end = market.runs[part]
        steps.append((end, begin, part))
    for part in minus(after[1], before[1]):
        begin, end = market.runs[part]
        steps.append((begin, end, part))
    if is_lap(market):
        old = spare_covers(market, before[0], before[1])
        new = spare_covers(market, after[0], after[1])
        for place in range(market.size):
            more = new[place] - old[place]
            steps.extend([(place + 1, place, BARE)] * max(0, more))
            steps.extend([(place, place + 1, BARE)] * max(0, -more))
    return steps


def spare_covers(market, wanted, chosen):
    """How much more often than wanted each place is covered."""
    return [count - number for count, number in zip(covered(market, chosen), wanted)]


def split(market, steps):
    """The moves of the walks and of the rings that the steps are split into.

    Each closed row has at most one way back, since it meets no point twice.
    """
    walks = []
    moves = []
    for row in closed_rows(market.size + 1, steps):
        if WAY_BACK in [step[2] for step in row]:
            walks.append(move_of(row))
        else:
            moves.append(move_of(row))
    return walks, moves
