"""Critical prices: up to which price a part is in some cheapest stock."""

from keptparts.cheapest import least_price
from keptparts.covers import changed, demand_of, is_stock_of
from keptparts.cuts import state_of
from keptparts.errors import IsDead, IsFirm, TooMany
from keptparts.flows import cheapest_of
from keptparts.markets import is_lap, part_there
from keptparts.notes import check_notes
from keptparts.sets import minus
from keptparts.stocks import MOST_PARTS, stocks_of
from keptparts.walks import cheapest_walk, price_in, world_of


class Judge:
    """Tells the critical price of one part in any world."""

    def __init__(self, market, demand, part):
        self.market = market
        self.demand = demand_of(market, demand)
        self.part = part_there(market, part)
        check_loose(market, self.demand, part)

    def __call__(self, world):
        return threshold(self.market, self.demand, world_of(self.market, world), self.part)


def critical_price(market, demand, world, part):
    """The critical price of a loose part in the world."""
    wanted = demand_of(market, demand)
    prices = world_of(market, world)
    check_loose(market, wanted, part)
    return threshold(market, wanted, prices, part)


def check_loose(market, wanted, part):
    """Raise IsFirm or IsDead if the part is not loose, or what is wrong about the part."""
    state = state_of(market, wanted, part)
    if state == "firm":
        raise IsFirm(part)
    if state == "dead":
        raise IsDead(part)


def threshold(market, wanted, prices, part):
    """The critical price of a loose part; not checked.

    It is what one cover less over the run of the part saves in the market without it.
    """
    rest = market.lose((part,))
    begin, end = market.runs[part]
    stock = cheapest_of(rest, wanted, prices)
    return -cheapest_walk(rest, wanted, prices, stock, (end, begin))[0]


def check_dozen(market):
    """Raise TooMany if more parts are there than critical prices can be compared for."""
    number = len(market.there())
    if number > MOST_PARTS:
        raise TooMany(number)


def critical_ends(market, demand, notes, part):
    """The least and the greatest critical price over the agreeing worlds."""
    least_end, greatest_end = noted_ends(market, demand, notes, part)
    return least_end[0], greatest_end[0]


def end_worlds(market, demand, notes, part):
    """Two agreeing worlds, with the least and with the greatest critical price."""
    least_end, greatest_end = noted_ends(market, demand, notes, part)
    return least_end[1], greatest_end[1]


def noted_ends(market, demand, notes, part):
    """The ends of the critical price, each with a world, from arguments that are checked here."""
    wanted = demand_of(market, demand)
    part_there(market, part)
    check_notes(market, notes)
    check_loose(market, wanted, part)
    check_dozen(market)
    return price_span(market, wanted, notes, part)


def price_span(market, wanted, notes, part):
    """The least and the greatest critical price of a loose part, each with a world; not checked.

    A stock without the part and one with it tell a bound each: the critical price is the least
    of what stocks without it cost, less the least of what stocks with it cost beside it.
    """
    rest = market.lose((part,))
    less = changed(market, wanted, market.runs[part], -1)
    lows = []
    highs = []
    for stock in stocks_of(market, wanted):
        if is_lap(market) and has_more(market, wanted, stock, part):
            continue
        prices = notes.low_on(stock)
        if part in stock:
            cost = price_in(prices, minus(stock, (part,)))
            highs.append((least_price(rest, wanted, prices) - cost, prices))
        else:
            lows.append((price_in(prices, stock) - least_price(rest, less, prices), prices))
    return min(lows), max(highs)


def has_more(market, wanted, stock, part):
    """Whether another part of the stock can be left out; such a stock tells no better bound."""
    rests = [minus(stock, (other,)) for other in stock if other != part]
    return any([is_stock_of(market, wanted, rest) for rest in rests])
