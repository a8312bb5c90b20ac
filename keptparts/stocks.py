"""Stocks of a demand: one, all, those one ring away, and lean ones."""

from keptparts.covers import check_stock, covered, demand_of, is_stock_of
from keptparts.errors import NoStock, TooMany
from keptparts.flows import cheapest_of
from keptparts.markets import is_lap
from keptparts.rings import rings
from keptparts.steps import behind

MOST_PARTS = 12


def some_stock(market, demand):
    """A stock of the demand, None if there is none."""
    return any_stock(market, demand_of(market, demand))


def any_stock(market, wanted):
    """A stock of a demand that is not checked, None if there is none."""
    if is_lap(market):
        there = market.there()
        return there if is_stock_of(market, wanted, there) else None
    return cheapest_of(market, wanted, [0] * market.many)


def check_has_stock(market, wanted):
    """Raise NoStock if a demand that is not checked has no stock."""
    if any_stock(market, wanted) is None:
        raise NoStock()


def has_stock(market, demand):
    """Whether the demand has a stock."""
    return some_stock(market, demand) is not None


def stocks_of(market, demand):
    """The ascending list of all stocks of the demand."""
    wanted = demand_of(market, demand)
    there = market.there()
    if len(there) > MOST_PARTS:
        raise TooMany(len(there))
    later = covered(market, there)
    rows = [((), wanted)] if can_still_fit(market, wanted, later) else []
    for part in there:
        later = lowered(market, part, later)
        grown = rows + [(chosen + (part,), lowered(market, part, needs)) for chosen, needs in rows]
        rows = [row for row in grown if can_still_fit(market, row[1], later)]
    return sorted([chosen for chosen, _ in rows])


def lowered(market, part, numbers):
    """Numbers for the places, with 1 less at each place of the part."""
    begin, end = market.runs[part]
    return tuple([number - 1 if begin <= place < end else number for place, number in enumerate(numbers)])


def can_still_fit(market, needs, later):
    """Whether, place by place, the parts still to come can give what is needed."""
    if any([need > count for need, count in zip(needs, later)]):
        return False
    return is_lap(market) or min(needs) >= 0


def beside_stock(market, demand, stock):
    """The ascending list of the stocks that are one ring away from the stock."""
    wanted = demand_of(market, demand)
    chosen = check_stock(market, wanted, stock)
    found = [behind(chosen, outs, ins) for outs, ins in rings(market, wanted, chosen)]
    return sorted(found)


def lean(market, demand, stock):
    """A stock within the stock, none of whose parts can be left out."""
    wanted = demand_of(market, demand)
    kept = check_stock(market, wanted, stock)
    for part in list(kept):
        less = tuple([other for other in kept if other != part])
        if is_stock_of(market, wanted, less):
            kept = less
    return kept
