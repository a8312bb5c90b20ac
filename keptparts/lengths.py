"""Worlds of lengths: prices that make a stock, or two stocks, the only cheapest ones."""

from keptparts.errors import BadNumber
from keptparts.markets import check_join, check_there
from keptparts.notes import replaced
from keptparts.pairs import check_searchable, ring_over, two_parts
from keptparts.sets import set_of
from keptparts.steps import check_sides


def lengths_world(market, stock, outs, ins):
    """The world in which just a stock, and the stock behind a move of it, are cheapest."""
    check_join(market)
    chosen = set_of(market.many, stock)
    out_parts = set_of(market.many, outs)
    in_parts = set_of(market.many, ins)
    check_there(market, in_parts)
    check_sides(chosen, out_parts, in_parts)
    return length_prices(market, chosen, out_parts + in_parts)


def length_prices(market, chosen, moved_parts):
    """For each part its length, 1 less in the set and 1 more outside if it is not moved; 0 for gone parts."""
    prices = []
    for part, (begin, end) in enumerate(market.runs):
        if part in market.gone:
            prices.append(0)
        elif part in moved_parts:
            prices.append(end - begin)
        else:
            prices.append(end - begin - 1 if part in chosen else end - begin + 1)
    return tuple(prices)


def breaking_world(market, demand, one, other, word):
    """A world in which losing both parts costs less ("with"), or more ("against"), than losing each."""
    wanted = two_parts(market, demand, one, other)
    if word not in ("with", "against"):
        raise BadNumber("word")
    check_searchable(market, wanted)
    if word == "against":
        found = ring_over(market, wanted, (one,), (other,))
    else:
        found = ring_over(market, wanted, (one, other), ())
    if found is None:
        return None
    stock, outs, ins = found
    prices = length_prices(market, stock, outs + ins)
    if word == "against":
        return prices
    # The stock behind the ring is to be dearer by 1, so that each loss costs 1, and so do both.
    return replaced(prices, ins[0], prices[ins[0]] + 1)
