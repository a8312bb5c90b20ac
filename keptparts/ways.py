"""1-stocks: stocks split into them, and chains of parts."""

from keptparts.checks import is_within
from keptparts.covers import check_stock, is_stock_of
from keptparts.errors import BadNumber
from keptparts.halving import MOST_LOTS, lots
from keptparts.markets import check_join
from keptparts.sets import set_of


def ways(market, number, stock):
    """A list of number 1-stocks without a common part that together are the stock."""
    if not is_within(number, 1, MOST_LOTS):
        raise BadNumber("number")
    return lots(market, check_stock(market, number, stock), number)


def chain_of(market, way):
    """The parts of a 1-stock of a join market, as they lie from the left to the right."""
    check_join(market)
    chosen = check_stock(market, 1, way)
    return tuple([part for _, part in sorted([(market.runs[part], part) for part in chosen])])


def is_way(market, parts):
    """Whether the parts are a 1-stock none of whose parts can be left out."""
    chosen = set_of(market.many, parts)
    if not is_stock_of(market, (1,) * market.size, chosen):
        return False
    rests = [tuple([other for other in chosen if other != part]) for part in chosen]
    return not any([is_stock_of(market, (1,) * market.size, rest) for rest in rests])
