"""Threads: runs laid end to end and beside one another, and what they cost."""

from keptparts.checks import is_any_run
from keptparts.errors import BadPoint, BadRun
from keptparts.markets import check_join
from keptparts.walks import world_of


class Thread:
    """What all threads have: a first and a last point."""

    def __init__(self, first, last):
        self.first = first
        self.last = last


class Single(Thread):
    """The thread of one run."""

    def __init__(self, run):
        begin, end = pair_of(run)
        super().__init__(begin, end)
        self._runs = ((begin, end),)
        self._within = ()

    def runs_in(self):
        """The ascending tuple of its runs: the one run."""
        return self._runs

    def costs(self, market, world):
        """The ascending prices of the parts on the run."""
        check_join(market)
        prices = world_of(market, world)
        return sorted([prices[part] for part in market.parts_over(self._runs[0])])

    def length_in(self, market):
        """The number of the parts on the run."""
        check_join(market)
        return len(market.parts_over(self._runs[0]))

    def least_with(self, run, other):
        """The thread itself if both runs are its run, otherwise None."""
        return least_thread(self, (pair_of(run), pair_of(other)))

    def words(self):
        """The text of the thread."""
        return f"{self.first}-{self.last}"

    def __iter__(self):
        return iter(self._within)


class EndToEnd(Thread):
    """Two threads, of which the second one begins where the first one ends."""

    def __init__(self, one, other):
        if one.last != other.first:
            raise BadPoint(other.first)
        super().__init__(one.first, other.last)
        self.one = one
        self.other = other
        self._runs = runs_of_two(one, other)
        self._within = (one, other)

    def runs_in(self):
        """The ascending tuple of the different runs of both threads."""
        return self._runs

    def costs(self, market, world):
        """The costs of both threads added entry by entry."""
        pairs = list(zip(self.one.costs(market, world), self.other.costs(market, world)))
        return [cost + cost_behind for cost, cost_behind in pairs]

    def length_in(self, market):
        """The number of its costs: that of the shorter thread."""
        return min(self.one.length_in(market), self.other.length_in(market))

    def least_with(self, run, other):
        """The smallest thread, itself or one within it, that has both runs, None if it has not both."""
        return least_thread(self, (pair_of(run), pair_of(other)))

    def words(self):
        """The text of the thread."""
        return f"({self.one.words()} + {self.other.words()})"

    def __iter__(self):
        return iter(self._within)


class Beside(Thread):
    """Two threads between the same two points."""

    def __init__(self, one, other):
        if one.first != other.first or one.last != other.last:
            raise BadRun(-1)
        super().__init__(one.first, one.last)
        self.one = one
        self.other = other
        self._runs = runs_of_two(one, other)
        self._within = (one, other)

    def runs_in(self):
        """The ascending tuple of the different runs of both threads."""
        return self._runs

    def costs(self, market, world):
        """The costs of both threads together, ascending."""
        return sorted(self.one.costs(market, world) + self.other.costs(market, world))

    def length_in(self, market):
        """The number of its costs: those of both threads."""
        return self.one.length_in(market) + self.other.length_in(market)

    def least_with(self, run, other):
        """The smallest thread, itself or one within it, that has both runs, None if it has not both."""
        return least_thread(self, (pair_of(run), pair_of(other)))

    def words(self):
        """The text of the thread."""
        return f"({self.one.words()} | {self.other.words()})"

    def __iter__(self):
        return iter(self._within)


def pair_of(run):
    """The run as a tuple, if it is one over some row."""
    if not is_any_run(run):
        raise BadRun(-1)
    return tuple(run)


def runs_of_two(one, other):
    """The ascending tuple of the different runs of two threads."""
    return tuple(sorted(set(one.runs_in()) | set(other.runs_in())))


def has_runs(thread, wanted):
    """Whether the thread has all of these runs."""
    return all([run in thread.runs_in() for run in wanted])


def least_thread(thread, wanted):
    """The smallest thread within the thread that has all of these runs, None if it has not all."""
    if not has_runs(thread, wanted):
        return None
    smaller = [side for side in thread if has_runs(side, wanted)]
    while smaller:
        thread = smaller[0]
        smaller = [side for side in thread if has_runs(side, wanted)]
    return thread
