"""Sets of parts split so that the covers of the pieces are as even as can be."""

from keptparts.checks import is_within
from keptparts.covers import covered
from keptparts.errors import BadNumber
from keptparts.markets import check_times
from keptparts.sets import both, common, minus, set_of

MOST_LOTS = 50


def halves(market, parts):
    """Two sets that make up the parts and whose covers differ by at most 1."""
    return halved(market, set_of(market.many, parts))


def halved(market, chosen):
    """The two halves of a set that is not checked."""
    sides = sides_of(partners(market, chosen))
    first = [part for part, side in zip(chosen, sides) if side == 0]
    second = [part for part, side in zip(chosen, sides) if side == 1]
    return tuple(first), tuple(second)


def partners(market, chosen):
    """For each end of a run the end that it is paired with.

    The run at index k has the ends 2 * k (its begin) and 2 * k + 1. All ends are paired
    from the left to the right, so at each place at most one pair is open.
    """
    ends = []
    for k, part in enumerate(chosen):
        begin, end = market.runs[part]
        ends.append((begin, 2 * k))
        ends.append((end, 2 * k + 1))
    ends = sorted(ends)
    partner = [0] * len(ends)
    for k in range(0, len(ends), 2):
        one = ends[k][1]
        other = ends[k + 1][1]
        partner[one] = other
        partner[other] = one
    return partner


def sides_of(partner):
    """0 for each run that is passed from its begin to its end, 1 for each other one.

    Going through a run and on from its other end to the partner of that end, one passes
    each run once. Of each pair one end is entered and one is left, which evens out.
    """
    many = len(partner) // 2
    sides = [None] * many
    for k in range(many):
        end = 2 * k
        while sides[end // 2] is None:
            sides[end // 2] = end & 1
            end = partner[end ^ 1]
    return sides


def lots(market, parts, number):
    """A list of number sets that make up the parts and cover each place evenly."""
    chosen = set_of(market.many, parts)
    if not is_within(number, 1, MOST_LOTS):
        raise BadNumber("number")
    ordered = sorted([(market.runs[part], part) for part in chosen])
    piles = [tuple(sorted([part for _, part in ordered[k::number]])) for k in range(number)]
    while evened(market, piles):
        pass
    return piles


def evened(market, piles):
    """Halve anew each two piles that are uneven; whether there were any.

    Each time the sum of the squares of all covers falls, so this comes to an end.
    """
    found = False
    many = len(piles)
    for k in range(many):
        for i in range(k):
            if uneven(market, piles[i], piles[k]):
                piles[i], piles[k] = halved(market, both(piles[i], piles[k]))
                found = True
    return found


def uneven(market, one, other):
    """Whether the covers of two sets differ by more than 1 somewhere."""
    pairs = list(zip(covered(market, one), covered(market, other)))
    return any([abs(count - number) > 1 for count, number in pairs])


def remade(market, one, other):
    """Two sets with the same parts as the two together, whose covers differ by at most 1."""
    first = set_of(market.many, one)
    second = set_of(market.many, other)
    shared = common(first, second)
    left, right = halved(market, minus(both(first, second), shared))
    return both(shared, left), both(shared, right)


def shares(market, times, parts):
    """For parts of the market many times over, the share of each copy."""
    check_times(times)
    many = market.many
    chosen = set_of(many * times, parts)
    return [tuple([part - copy * many for part in chosen if part // many == copy]) for copy in range(times)]
