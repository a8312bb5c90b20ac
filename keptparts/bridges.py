"""Bridges: what sets of runs have that do not fold."""

from keptparts.checks import is_row, is_run, is_within
from keptparts.laying import laid
from keptparts.markets import Join
from keptparts.useful import chain_among, row_runs, useful_among, useful_runs


def bridge(size, runs):
    """The four points and the five chains of a bridge, None if there is none."""
    useful = useful_runs(size, runs)
    if not has_bridge(size, useful):
        return None
    kept = needed_runs(size, useful)
    points = branch_points(kept)
    chains = [chain_on(kept, run, points) for run in kept if run[0] in points[:3]]
    return points, tuple([chain_with(chains, ends) for ends in chain_ends(points)])


def chain_ends(points):
    """The pairs of points between which the five chains of a bridge lie."""
    first, left, right, last = points
    return (first, left), (first, right), (left, right), (left, last), (right, last)


def has_bridge(size, runs):
    """Whether ascending runs have a bridge: some are useful, and these do not fold."""
    _, threads = laid(useful_among(size, runs), False)
    return list(threads) not in ([], [(0, size)])


def needed_runs(size, runs):
    """Runs, of those that are told, none of which can be left out so that a bridge is left.

    They are those of one bridge, of one chain from 0 to it and of one chain from it to n.
    """
    # To leave out all runs at a point at once is a short cut.
    lots = [[run for run in runs if point in run] for point in range(1, size)]
    kept = runs
    for lot in lots + [[run] for run in runs]:
        fewer = tuple([run for run in kept if run not in lot])
        if has_bridge(size, fewer):
            kept = fewer
    return kept


def branch_points(runs):
    """The ascending tuple of the points at which several of the runs begin, or several end."""
    begins = [begin for begin, _ in runs]
    ends = [end for _, end in runs]
    return tuple([point for point in sorted(set(begins + ends)) if max(begins.count(point), ends.count(point)) > 1])


def chain_on(runs, run, points):
    """The chain that begins with the run and goes on to the next one of the points."""
    chain = [run]
    while chain[-1][1] not in points:
        chain.append([later for later in runs if later[0] == chain[-1][1]][0])
    return tuple(chain)


def chain_with(chains, ends):
    """The chain between these two points."""
    return [chain for chain in chains if (chain[0][0], chain[-1][1]) == ends][0]


def is_bridge(size, runs, points, chains):
    """Whether the points and the chains are those of a bridge."""
    useful = useful_runs(size, runs)
    if not is_row(points) or len(points) != 4 or not all([is_within(point, 0, size) for point in points]):
        return False
    if not is_row(chains) or len(chains) != 5:
        return False
    # Chains lead from left to right, so the points ascend if all five chains are there.
    inner = list(points)
    for chain, ends in zip(chains, chain_ends(points)):
        if not is_chain(size, useful, chain, ends):
            return False
        inner.extend([end for _, end in chain[:-1]])
    return len(set(inner)) == len(inner)


def is_chain(size, runs, chain, ends):
    """Whether the value is a chain of the runs between two different points."""
    if not is_row(chain) or not all([is_run(size, run) and tuple(run) in runs for run in chain]):
        return False
    starts = [begin for begin, _ in chain]
    goals = [end for _, end in chain]
    return starts == [ends[0]] + goals[:-1] and goals[-1] == ends[1]


def doubled(size, runs):
    """The join market with two parts on each useful run."""
    return Join(size, [run for run in useful_runs(size, runs) for _ in range(2)])


def once_and_whole(size, runs):
    """The join market with one part on each useful run, and one part more over the whole row."""
    useful = useful_runs(size, runs)
    return Join(size, useful + ((0, size),))


def bridge_way(size, runs):
    """A 1-stock of the doubled market and the move of a growing way of it that has an out; None without a bridge."""
    found = bridge(size, runs)
    if found is None:
        return None
    points, chains = found
    left, over, middle, back, right = chains
    ordered = row_runs(size, runs)
    useful = useful_among(size, ordered)
    tails = chain_among(ordered, 0, points[0]) + chain_among(ordered, points[3], size)
    stock = [2 * useful.index(run) for run in tails + left + middle + right]
    # The stock has the first parts of the tails, so the way takes their second ones.
    ins = [2 * useful.index(run) + 1 for run in tails] + [2 * useful.index(run) for run in over + back]
    outs = [2 * useful.index(run) for run in middle]
    return tuple(sorted(stock)), tuple(sorted(outs)), tuple(sorted(ins))
