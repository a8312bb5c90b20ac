"""Papers: sets of prices that show, once they are asked, that a stock is cheapest."""

from keptparts.covers import check_stock, demand_of, places_over
from keptparts.errors import BadHeights, BadPart, NotFitting, TooMany
from keptparts.heights import check_rising, check_row, heights_for
from keptparts.markets import is_lap
from keptparts.notes import check_agrees, check_notes
from keptparts.sets import minus, set_of, subsets
from keptparts.walks import check_cheapest, lowering_ring, price_in, world_of

MOST_UNSEEN = 10


class Told:
    """A paper of fewest parts for a stock that is cheapest in an agreeing world."""

    def __init__(self, market, demand, notes, world, stock):
        case = stock_case(market, demand, notes, world, stock)
        unseen = minus(notes.unseen(), market.gone)
        if len(unseen) > MOST_UNSEEN:
            raise TooMany(len(unseen))
        _, wanted, _, prices, chosen = case
        self.market = market
        self.demand = wanted
        self.notes = notes
        self.world = prices
        self.stock = chosen
        self.paper = least_paper(case, unseen)
        self.heights = heights_with(case, self.paper)
        self.fewest = len(self.paper)

    def shows(self, parts):
        """Whether the parts are a paper."""
        asked = set_of(self.market.many, parts)
        check_unseen(self.notes, asked)
        return is_shown((self.market, self.demand, self.notes, self.world, self.stock), asked)

    def __len__(self):
        return len(self.paper)

    def __iter__(self):
        return iter(self.paper)


def stock_case(market, demand, notes, world, stock):
    """Market, demand, notes, world and a stock that is cheapest in it, all of them checked."""
    wanted = demand_of(market, demand)
    prices = world_of(market, world)
    chosen = set_of(market.many, stock)
    check_case(market, wanted, notes, prices, chosen)
    return market, wanted, notes, prices, chosen


def asked_case(market, demand, notes, world, stock, parts):
    """The same, and the set of the asked parts, all of which must be unseen."""
    wanted = demand_of(market, demand)
    prices = world_of(market, world)
    chosen = set_of(market.many, stock)
    asked = set_of(market.many, parts)
    check_case(market, wanted, notes, prices, chosen)
    check_unseen(notes, asked)
    return (market, wanted, notes, prices, chosen), asked


def check_case(market, wanted, notes, prices, chosen):
    """Raise the error of what is wrong between notes, world and stock."""
    check_notes(market, notes)
    check_agrees(notes, prices)
    check_stock(market, wanted, chosen)
    check_cheapest(market, wanted, prices, chosen)


def check_unseen(notes, asked):
    """Raise BadPart with the least part of a set that is seen."""
    for part in asked:
        if notes.is_seen(part):
            raise BadPart(part)


def worst_after(case, asked):
    """The world in which the stock is as dear as can be, once the parts are asked."""
    _, _, notes, prices, chosen = case
    return notes.after(asked, prices).high_on(chosen)


def ring_left(case, asked):
    """A ring that can still lower the price once the parts are asked, None if they are a paper."""
    market, wanted, _, _, chosen = case
    return lowering_ring(market, wanted, worst_after(case, asked), chosen)


def is_shown(case, asked):
    """Whether the parts are a paper."""
    return ring_left(case, asked) is None


def heights_with(case, asked):
    """Heights that fit the stock in every world that agrees once the parts are asked, None if there are none."""
    market, wanted, _, _, chosen = case
    return heights_for(market, wanted, worst_after(case, asked), chosen)


def least_paper(case, unseen):
    """The first paper among the sets of unseen parts, by size."""
    rings = []
    for asked in subsets(unseen):
        prices = worst_after(case, asked)
        # A ring that was left by another set is looked at first: that costs less than a search.
        if all([price_in(prices, outs) <= price_in(prices, ins) for outs, ins in rings]):
            ring = ring_left(case, asked)
            if ring is None:
                return asked
            rings.append(ring)
    return unseen


def is_paper(market, demand, notes, world, stock, parts):
    """Whether the parts, once they are asked, show that the stock is cheapest."""
    case, asked = asked_case(market, demand, notes, world, stock, parts)
    return is_shown(case, asked)


def paper_heights(market, demand, notes, world, stock, parts):
    """Heights that fit the stock in the world and need no other prices than the parts'; None if these are no paper."""
    case, asked = asked_case(market, demand, notes, world, stock, parts)
    return heights_with(case, asked)


def lean_paper(market, demand, notes, world, stock, parts):
    """What is left of a paper when each part is left out in turn if it can be; None if the parts are no paper."""
    case, asked = asked_case(market, demand, notes, world, stock, parts)
    if not is_shown(case, asked):
        return None
    kept = asked
    for part in asked:
        fewer = minus(kept, (part,))
        if is_shown(case, fewer):
            kept = fewer
    return kept


def paper_of(market, demand, notes, world, stock, heights):
    """The set of the parts whose prices the heights need."""
    wanted = demand_of(market, demand)
    prices = world_of(market, world)
    chosen = set_of(market.many, stock)
    check_row(market, heights)
    check_rising(market, heights)
    check_case(market, wanted, notes, prices, chosen)
    check_fitting(market, wanted, prices, chosen, heights)
    worths = heights.worths(market)
    return tuple([part for part in market.there() if is_needed(notes, chosen, worths, part)])


def is_needed(notes, chosen, worths, part):
    """Whether the price of the part must be asked for heights with these worths."""
    if part in chosen:
        return worths[part] < notes.highs[part]
    return worths[part] > notes.lows[part]


def check_fitting(market, wanted, prices, chosen, heights):
    """Raise the error of the least place, or else the least part, that does not let the heights fit."""
    levels = heights.levels
    if is_lap(market):
        for place in places_over(market, wanted, chosen):
            if levels[place + 1] > levels[place]:
                raise BadHeights(place)
    worths = heights.worths(market)
    for part in market.there():
        excess = worths[part] - prices[part]
        if part in chosen and excess < 0 or part not in chosen and excess > 0:
            raise NotFitting(part)
