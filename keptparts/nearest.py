"""The world nearest to heights, and the parts that heights surely hold or bar."""

from keptparts.heights import check_row
from keptparts.notes import check_notes


def noted_worths(market, notes, heights):
    """The worths of all parts, checked together with the notes."""
    check_row(market, heights)
    check_notes(market, notes)
    return heights.worths(market)


def nearest_world(market, notes, heights):
    """The world with the price of each stretch that is nearest to the worth of the part."""
    worths = noted_worths(market, notes, heights)
    pairs = list(zip(worths, notes.stretches))
    return tuple([min(max(worth, low), high) for worth, (low, high) in pairs])


def surely_held(market, notes, heights):
    """The set of the parts whose worth is greater than their high end."""
    worths = noted_worths(market, notes, heights)
    return tuple([part for part in market.there() if worths[part] > notes.highs[part]])


def surely_barred(market, notes, heights):
    """The set of the parts whose worth is less than their low end."""
    worths = noted_worths(market, notes, heights)
    return tuple([part for part in market.there() if worths[part] < notes.lows[part]])
