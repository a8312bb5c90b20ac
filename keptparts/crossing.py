"""Runs that cross, and rings that lead over two chains."""

from keptparts.checks import first_wrong, is_any_run, is_row
from keptparts.errors import BadRun
from keptparts.markets import check_join
from keptparts.sets import set_of
from keptparts.useful import distinct


def crossing_pair(runs):
    """The least pair of runs that cross, None if no two cross."""
    if not is_row(runs):
        raise BadRun(-1)
    place = first_wrong([is_any_run(run) for run in runs])
    if place is not None:
        raise BadRun(place)
    ordered = distinct([tuple(run) for run in runs])
    for k, one in enumerate(ordered):
        for other in ordered[k + 1:]:
            if one[0] < other[0] < one[1] < other[1]:
                return one, other
    return None


def sides(market, outs, ins):
    """The chain of the outs and the chain of the ins between the same two points, None if they are not such."""
    check_join(market)
    out_chain = chain_of_all(market, set_of(market.many, outs))
    in_chain = chain_of_all(market, set_of(market.many, ins))
    if out_chain is None or in_chain is None:
        return None
    out_points = points_on(market, out_chain)
    in_points = points_on(market, in_chain)
    if (out_points[0], out_points[-1]) != (in_points[0], in_points[-1]):
        return None
    if any([point in out_points for point in in_points[1:-1]]):
        return None
    return out_chain, in_chain


def chain_of_all(market, parts):
    """All of the parts in the order of one chain, None if they are no chain or there are none."""
    ordered = tuple([part for _, part in sorted([(market.runs[part], part) for part in parts])])
    linked = [market.runs[before][1] == market.runs[after][0] for before, after in zip(ordered, ordered[1:])]
    return ordered if ordered and all(linked) else None


def points_on(market, chain):
    """The ascending points of a chain of parts."""
    return [market.runs[chain[0]][0]] + [market.runs[part][1] for part in chain]
