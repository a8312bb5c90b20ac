"""Sets of runs that fold, and what their folding tells."""

from keptparts.bridges import bridge
from keptparts.errors import BadPart, NoUseful, NotFolding, SamePart
from keptparts.laying import laid
from keptparts.markets import check_join, part_there
from keptparts.useful import chain_among, market_runs, useful_among, useful_runs
from keptparts.walks import world_of


class Folding:
    """A folding of a set of runs that is carried on until no point may be folded."""

    def __init__(self, size, runs, *, backwards=False):
        self.size = size
        self.runs = useful_runs(size, runs)
        folded, threads = laid(self.runs, backwards)
        self.folded = folded
        self.rest = tuple(sorted(threads))
        self.thread = threads[self.rest[0]] if self.rest == ((0, size),) else None

    @property
    def folds(self):
        """Whether one thread alone is left, from 0 to n."""
        return self.thread is not None


def folding_of(market):
    """The folding of the runs of the parts that are not gone."""
    check_join(market)
    return Folding(market.size, market_runs(market))


def cost_row(market, world):
    """The costs of the thread of a market that folds."""
    folding = folding_of(market)
    prices = world_of(market, world)
    if not folding.runs:
        raise NoUseful()
    if folding.thread is None:
        raise NotFolding(bridge(market.size, folding.runs))
    return folding.thread.costs(market, prices)


def sort_in(market, one, other):
    """Whether two parts of useful runs are "beside" one another or "end to end"."""
    check_join(market)
    useful = useful_among(market.size, market_runs(market))
    first = useful_run(market, useful, one)
    second = useful_run(market, useful, other)
    if one == other:
        raise SamePart(other)
    return "end to end" if on_one_chain(useful, first, second) else "beside"


def useful_run(market, useful, part):
    """The run of a part that must be there and lie on a useful run."""
    run = market.runs[part_there(market, part)]
    if run not in useful:
        raise BadPart(part)
    return run


def on_one_chain(useful, one, other):
    """Whether two useful runs are different and some chain from 0 to n has both."""
    return chain_among(useful, one[1], other[0]) is not None or chain_among(useful, other[1], one[0]) is not None
