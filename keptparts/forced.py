"""Forced parts: those that are in every paper; gains, and rings that a set of asks leaves."""

from keptparts.checks import prices_of
from keptparts.notes import check_agrees, check_number
from keptparts.papers import asked_case, ring_left, stock_case
from keptparts.sets import set_of
from keptparts.walks import walk_prices


def forced_parts(market, demand, notes, world, stock):
    """The set of the parts that are in every paper for the stock."""
    _, wanted, _, prices, chosen = stock_case(market, demand, notes, world, stock)
    walks = walk_prices(market, wanted, prices, chosen)
    unseen = [part for part in notes.unseen() if part not in market.gone]
    return tuple([part for part in unseen if is_forced(market, notes, walks, part, part in chosen)])


def is_forced(market, notes, walks, part, inside):
    """Whether what is known of the price reaches beyond MORE or LESS of the run of the part."""
    begin, end = market.runs[part]
    if inside:
        more = walks[begin][end]
        return more is not None and notes.highs[part] > more
    back = walks[end][begin]
    return back is not None and notes.lows[part] < -back


def gain(notes, world, stock, part):
    """By how much asking the part in the world narrows what counts against the stock."""
    prices, chosen = gain_case(notes, world, stock)
    check_number(notes, part)
    check_agrees(notes, prices)
    return gain_of(notes, prices, chosen, part)


def gains(notes, world, stock, parts):
    """The sum of the gains of the parts."""
    prices, chosen = gain_case(notes, world, stock)
    asked = set_of(len(notes), parts)
    check_agrees(notes, prices)
    return sum([gain_of(notes, prices, chosen, part) for part in asked])


def gain_case(notes, world, stock):
    """The prices and the set of parts, checked by their form."""
    prices = prices_of(len(notes), world)
    return prices, set_of(len(notes), stock)


def gain_of(notes, prices, chosen, part):
    """The gain of a part; not checked."""
    if part in chosen:
        return notes.highs[part] - prices[part]
    return prices[part] - notes.lows[part]


def lacking_ring(market, demand, notes, world, stock, parts):
    """A ring for which the gains of the parts are not enough, None if the parts are a paper."""
    case, asked = asked_case(market, demand, notes, world, stock, parts)
    return ring_left(case, asked)
