"""Growing: whether larger stocks can be had without giving parts back, for the kind join."""

from keptparts.checks import is_count
from keptparts.covers import check_stock, demand_of
from keptparts.cuts import strength
from keptparts.errors import BadNumber
from keptparts.markets import check_join
from keptparts.pairs import part_rows, stock_with
from keptparts.rings import check_few
from keptparts.sets import minus, set_of
from keptparts.steps import move_of
from keptparts.stocks import any_stock
from keptparts.waiting import check_count


def grows_at(market, number):
    """Whether no growing way of a stock of this size gives a part back."""
    return going_back(market, number) is None


def going_back(market, number):
    """A stock of this size and the move of a growing way of it that has an out, None if there is none."""
    check_join(market)
    check_below(market, number)
    check_few(market)
    for outs, ins in way_moves(market):
        if outs:
            stock = stock_with(market, demand_of(market, number), outs, ins)
            if stock is not None:
                return stock, outs, ins
    return None


def grows(market):
    """Whether the market grows at each size below its strength."""
    check_join(market)
    check_few(market)
    # A market that grows at 1 grows at each size.
    return strength(market) <= 1 or grows_at(market, 1)


def check_below(market, number):
    """Raise BadNumber if the number is not a size below the strength."""
    if not is_count(number) or number >= strength(market):
        raise BadNumber("number")


def way_moves(market):
    """The moves of all rows of steps over parts from 0 to n that meet no point twice."""
    return [move_of(row) for row in part_rows(market, 0, market.size, 0)]


def stocks_that_grow(market, number):
    """All moves of growing ways of stocks of this size, each as (stock, outs, ins) with one such stock."""
    wanted = demand_of(market, number)
    found = [(stock_with(market, wanted, outs, ins), outs, ins) for outs, ins in way_moves(market)]
    return [told for told in found if told[0] is not None]


def stock_left(market, number, stock, more, other):
    """A stock of the size more among the parts of the other stock that are not in the first one."""
    check_join(market)
    check_count("number", number)
    first = set_of(market.many, stock)
    check_count("more", more)
    second = set_of(market.many, other)
    check_stock(market, number, first)
    check_stock(market, number + more, second)
    return any_stock(market.keep(minus(second, first)), demand_of(market, more))
