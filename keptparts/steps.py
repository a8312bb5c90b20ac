"""Steps from point to point, and moves of parts out of and into a stock."""

from keptparts.covers import check_stock, demand_of, places_over
from keptparts.errors import BadPart
from keptparts.markets import check_there, is_lap
from keptparts.sets import both, minus, set_of

BARE = -1


def steps_of(market, demand, stock):
    """The ascending list of all steps of the stock, each as (from, to, part)."""
    wanted = demand_of(market, demand)
    chosen = check_stock(market, wanted, stock)
    return sorted(steps_from(market, chosen, free_places(market, wanted, chosen)))


def free_places(market, wanted, chosen):
    """The places over which there is a bare step to the right."""
    if not is_lap(market):
        return ()
    return places_over(market, wanted, chosen)


def steps_from(market, chosen, free):
    """All steps of a set of parts, with bare ones to the right over the free places."""
    inside = set(chosen)
    steps = []
    for part in market.there():
        begin, end = market.runs[part]
        if part in inside:
            steps.append((end, begin, part))
        else:
            steps.append((begin, end, part))
    if is_lap(market):
        for place in range(market.size - 1, -1, -1):
            steps.append((place + 1, place, BARE))
        for place in free:
            steps.append((place, place + 1, BARE))
    return steps


def move_of(steps):
    """The move of a row of steps: an out leads to the left, an in to the right."""
    outs = [step[2] for step in steps if step[2] >= 0 and step[0] > step[1]]
    ins = [step[2] for step in steps if step[2] >= 0 and step[0] < step[1]]
    return tuple(sorted(outs)), tuple(sorted(ins))


def moved(market, demand, stock, outs, ins):
    """The stock without the outs and with the ins."""
    wanted = demand_of(market, demand)
    chosen = set_of(market.many, stock)
    leaving_parts = set_of(market.many, outs)
    coming_parts = set_of(market.many, ins)
    check_there(market, coming_parts)
    check_stock(market, wanted, chosen)
    check_sides(chosen, leaving_parts, coming_parts)
    return behind(chosen, leaving_parts, coming_parts)


def check_sides(chosen, outs, ins):
    """Raise BadPart with the least out that is not in the set, or in that is."""
    misplaced = [part for part in outs if part not in chosen]
    misplaced = misplaced + [part for part in ins if part in chosen]
    if misplaced:
        raise BadPart(min(misplaced))


def behind(chosen, outs, ins):
    """The set of parts behind a move; not checked."""
    return both(minus(chosen, outs), ins)


def turned_back(move):
    """The move turned back."""
    outs, ins = move
    return ins, outs
