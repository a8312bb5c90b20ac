"""Demands, covers, and which sets of parts are stocks."""

from keptparts.checks import first_wrong, is_row, is_whole
from keptparts.errors import BadDemand, BadNumber, NotAStock
from keptparts.markets import check_run, is_lap
from keptparts.sets import set_of


def demand_of(market, demand):
    """The demand as a tuple with one integer for each place."""
    if is_whole(demand):
        return tuple([demand] * market.size)
    if not is_row(demand) or len(demand) != market.size:
        raise BadDemand(-1)
    place = first_wrong([is_whole(item) for item in demand])
    if place is not None:
        raise BadDemand(place)
    return tuple(demand)


def covered(market, chosen):
    """The tuple of the covers of a set of parts, not checked."""
    changes = [0] * (market.size + 1)
    for part in chosen:
        begin, end = market.runs[part]
        changes[begin] += 1
        changes[end] -= 1
    counts = []
    count = 0
    for change in changes[:-1]:
        count += change
        counts.append(count)
    return tuple(counts)


def cover(market, parts):
    """The tuple of the covers of a set of parts; gone parts count."""
    return covered(market, set_of(market.many, parts))


def fits_place(market, count, wanted):
    """Whether a cover is right for what is wanted at a place."""
    if is_lap(market):
        return count >= wanted
    return count == wanted


def wrong_place(market, wanted, chosen):
    """The least place whose cover does not fit, None if there is none; not checked."""
    pairs = list(zip(covered(market, chosen), wanted))
    return first_wrong([fits_place(market, count, number) for count, number in pairs])


def is_stock_of(market, wanted, chosen):
    """Whether a set of parts is a stock of a demand; the form is not checked."""
    if any([part in market.gone for part in chosen]):
        return False
    return wrong_place(market, wanted, chosen) is None


def is_stock(market, demand, parts):
    """Whether the parts are a stock of the demand."""
    wanted = demand_of(market, demand)
    return is_stock_of(market, wanted, set_of(market.many, parts))


def misfit_place(market, demand, parts):
    """The least place whose cover does not fit the demand, None if there is none."""
    wanted = demand_of(market, demand)
    return wrong_place(market, wanted, set_of(market.many, parts))


def check_stock(market, demand, parts):
    """The set of these parts, if they are a stock of the demand."""
    wanted = demand_of(market, demand)
    chosen = set_of(market.many, parts)
    if any([part in market.gone for part in chosen]):
        raise NotAStock(-1)
    place = wrong_place(market, wanted, chosen)
    if place is not None:
        raise NotAStock(place)
    return chosen


def over(market, demand, parts):
    """The ascending tuple of the places that are covered more often than demanded."""
    wanted = demand_of(market, demand)
    return places_over(market, wanted, set_of(market.many, parts))


def places_over(market, wanted, chosen):
    """The places where the cover is greater than what is wanted; not checked."""
    counts = covered(market, chosen)
    return tuple([place for place in range(market.size) if counts[place] > wanted[place]])


def begins(market, demand):
    """The tuple of the begins of the demand at all points."""
    return begins_of(demand_of(market, demand))


def begins_of(wanted):
    """The begins of a demand that is a tuple."""
    before = (0, *wanted)
    after = (*wanted, 0)
    return tuple([number - earlier for number, earlier in zip(after, before)])


def changed(market, demand, run, by):
    """The demand with a number added at each place of the run."""
    wanted = demand_of(market, demand)
    begin, end = check_run(market, run)
    if not is_whole(by):
        raise BadNumber("by")
    return tuple([number + by if begin <= place < end else number for place, number in enumerate(wanted)])
