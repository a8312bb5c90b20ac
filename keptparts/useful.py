"""Sets of runs: chains of them, and those that lie on a chain over the whole row."""

from keptparts.checks import is_run, is_within
from keptparts.errors import BadNumber, BadPoint, BadRun
from keptparts.markets import GREATEST_SIZE, checked_runs


def market_runs(market):
    """The ascending tuple of the different runs of the parts that are not gone."""
    return distinct([market.runs[part] for part in market.there()])


def distinct(runs):
    """Each of the runs once, in ascending order."""
    return tuple(sorted(set(runs)))


def row_runs(size, runs):
    """The different runs over a row of that size, in ascending order."""
    if not is_within(size, 1, GREATEST_SIZE):
        raise BadNumber("size")
    return distinct(checked_runs(size, runs))


def useful_runs(size, runs):
    """The ascending tuple of the runs that lie on a chain from 0 to n."""
    return useful_among(size, row_runs(size, runs))


def useful_among(size, runs):
    """The useful ones of ascending runs; not checked."""
    ahead = set()
    ahead.add(0)
    for begin, end in runs:
        if begin in ahead:
            ahead.add(end)
    back = set()
    back.add(size)
    for begin, end in reversed(list(runs)):
        if end in back:
            back.add(begin)
    return tuple([(begin, end) for begin, end in runs if begin in ahead and end in back])


def chain_between(size, runs, first, last):
    """A chain of the runs from one point to another, None if there is none."""
    ordered = row_runs(size, runs)
    check_point(size, first)
    check_point(size, last)
    return chain_among(ordered, first, last)


def check_point(size, point):
    """Raise BadPoint if the value is no point of a row of that size."""
    if not is_within(point, 0, size):
        raise BadPoint(point)


def chain_among(runs, first, last):
    """A chain of ascending runs between two points, None if there is none; not checked."""
    reached_by = {first: None}
    for run in runs:
        if run[0] in reached_by and run[1] not in reached_by:
            reached_by[run[1]] = run
    if last not in reached_by:
        return None
    chain = []
    point = last
    while point != first:
        chain.append(reached_by[point])
        point = reached_by[point][0]
    return tuple(chain[::-1])


def chain_through(size, runs, run):
    """A chain of the runs from 0 to n that has the run, None if there is none."""
    ordered = row_runs(size, runs)
    if not is_run(size, run):
        raise BadRun(-1)
    wanted = tuple(run)
    if wanted not in useful_among(size, ordered):
        return None
    return chain_among(ordered, 0, wanted[0]) + (wanted,) + chain_among(ordered, wanted[1], size)
