import itertools
import unittest

from keptparts.cuts import state_of, strength
from keptparts.errors import BadNumber, BadPoint, BadRun
from keptparts.markets import Join, Lap
from keptparts.useful import chain_between, chain_through, market_runs, useful_runs
from support import (
    NO_INTEGERS, NO_ROWS, Case, all_runs, chain_rows, great_market, market_over, random_market, random_runs,
    stocks_by_size,
)

WRONG_RUNS = ((0, 4), (-1, 1), (1, 1), (2, 1), (0,), (0, 1, 2), (0, True), (0, 1.0), None, 5, "01", True)


def run_sets(many):
    """Small sets of runs, in any order and with equal ones."""
    for seed in range(many):
        size = 1 + seed % 5
        yield seed, size, random_runs(seed, size)


class Useful(Case):
    """Promise 106: runs, chains, useful runs."""

    def test_market_runs(self):
        for seed in range(60):
            market = random_market(seed)
            wanted = sorted({market.runs[part] for part in market.there()})
            self.same(market_runs(market), tuple(wanted))
        for kind in (Join, Lap):
            market = kind(3, [(1, 3), [0, 1], (1, 3), (0, 3)], gone=[3])
            self.same(market_runs(market), ((0, 1), (1, 3)))
            self.same(market_runs(kind(2, [])), ())

    def test_useful_runs(self):
        told = {True: 0, False: 0}
        for seed, size, runs in run_sets(300):
            wanted = sorted({run for chain in chain_rows(runs, 0, size) for run in chain})
            self.same(useful_runs(size, runs), tuple(wanted))
            self.same(useful_runs(size, [list(run) for run in runs[::-1]]), tuple(wanted))
            self.same(useful_runs(size, wanted), tuple(wanted))
            for run in set(runs):
                told[run in wanted] += 1
        self.assertTrue(min(told.values()) > 200, told)
        self.same(useful_runs(3, ()), ())
        self.same(useful_runs(3, [(0, 1), (2, 3)]), ())
        self.same(useful_runs(1, [(0, 1), [0, 1]]), ((0, 1),))

    def test_markets_over_the_runs(self):
        """A run is useful exactly if some market over the runs has a stock with a part on it."""
        for seed, size, runs in run_sets(80):
            useful = useful_runs(size, runs)
            market = Join(size, sorted(set(runs)))
            by_size = stocks_by_size(market)
            used = {market.runs[part] for found in by_size[1:] for stock in found for part in stock}
            # One part on each run shows those that are in a 1-stock.
            self.same(tuple(sorted(used)), useful)
            self.same(strength(market) >= 1, bool(useful))
            larger = market_over(seed, size, runs)
            self.same(strength(larger) >= 1, bool(useful_runs(size, market_runs(larger))))
            for number in range(strength(larger) + 1):
                for part in larger.there():
                    if larger.runs[part] not in useful_runs(size, market_runs(larger)):
                        self.same(state_of(larger, number, part), "dead")


class Chains(Case):
    """Promise 106: chains of a set of runs."""

    def test_chains_between(self):
        told = {True: 0, False: 0}
        for seed, size, runs in run_sets(150):
            for first, last in itertools.product(range(size + 1), repeat=2):
                found = chain_between(size, runs, first, last)
                wanted = chain_rows(runs, first, last) if first <= last else []
                self.same(found is not None, bool(wanted))
                if found is not None:
                    self.assertIn(found, wanted)
                    self.same(found, tuple(tuple(run) for run in found))
                if first == last:
                    self.same(found, ())
                told[bool(wanted)] += first < last
        self.assertTrue(min(told.values()) > 200, told)
        self.same(chain_between(3, [], 2, 2), ())
        self.same(chain_between(3, [(0, 3)], 3, 0), None)
        # The run need not be useful.
        self.same(chain_between(4, [[1, 2], [2, 3]], 1, 3), ((1, 2), (2, 3)))

    def test_chains_through(self):
        told = {True: 0, False: 0}
        for seed, size, runs in run_sets(200):
            for run in all_runs(size):
                found = chain_through(size, runs, list(run))
                wanted = [chain for chain in chain_rows(runs, 0, size) if run in chain]
                self.same(found is not None, bool(wanted))
                if wanted:
                    self.assertIn(found, wanted)
                told[bool(wanted)] += run in runs
        self.assertTrue(min(told.values()) > 150, told)
        self.same(chain_through(3, [(0, 1), (1, 3)], (0, 3)), None)
        self.same(chain_through(3, [(0, 1), (1, 2)], (1, 2)), None)
        self.same(chain_through(1, [[0, 1]], [0, 1]), ((0, 1),))

    def test_great_sets(self):
        for seed in range(10):
            runs = great_market(seed).runs + tuple((place, place + 1) for place in range(30) if place != seed)
            useful = useful_runs(30, runs)
            for run in runs:
                chain = chain_through(30, runs, run)
                self.same(chain is not None, run in useful)
                if chain is not None:
                    self.assertTrue(run in chain and set(chain) <= set(runs))
                    self.same([0] + [end for _, end in chain], [begin for begin, _ in chain] + [30])
        every = all_runs(30)
        self.same(useful_runs(30, every), tuple(every))


class Wrong(Case):
    """Promises 1 and 2."""

    def functions(self):
        return ((useful_runs, ()), (chain_between, (0, 1)), (chain_through, ((0, 1),)))

    def test_sizes_and_runs(self):
        for function, more in self.functions():
            for size in NO_INTEGERS + (0, -1, 31):
                self.fails(BadNumber, {"name": "size"}, function, size, [(0, 1)], *more)
            for runs in NO_ROWS:
                self.fails(BadRun, {"place": -1}, function, 3, runs, *more)
            for run in WRONG_RUNS:
                self.fails(BadRun, {"place": 1}, function, 3, [(0, 1), run, run], *more)

    def test_points(self):
        for point in NO_INTEGERS + (-1, 4):
            self.fails(BadPoint, {"point": point}, chain_between, 3, [(0, 1)], point, 9)
            self.fails(BadPoint, {"point": point}, chain_between, 3, [(0, 1)], 3, point)
        for run in WRONG_RUNS:
            self.fails(BadRun, {"place": -1}, chain_through, 3, [(0, 1)], run)

    def test_orders(self):
        size = (0, 31, BadNumber, {"name": "size"})
        runs = (1, [(0, 1), (1, 1)], BadRun, {"place": 1})
        self.order(useful_runs, (3, [(0, 1)]), (size, runs))
        self.order(chain_between, (3, [(0, 1)], 0, 1), (
            size, runs, (2, -1, BadPoint, {"point": -1}), (3, "3", BadPoint, {"point": "3"}),
        ))
        self.order(chain_through, (3, [(0, 1)], (0, 1)), (size, runs, (2, (1, 0), BadRun, {"place": -1})))

    def test_arguments_stay(self):
        runs = [[1, 3], [0, 1], [0, 1]]
        first = (useful_runs(3, runs), chain_between(3, runs, 0, 3), chain_through(3, runs, [1, 3]))
        self.assertEqual(runs, [[1, 3], [0, 1], [0, 1]])
        runs[0][0] = 2
        self.same(first, (((0, 1), (1, 3)), ((0, 1), (1, 3)), ((0, 1), (1, 3))))


if __name__ == "__main__":
    unittest.main()
