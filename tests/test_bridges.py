import itertools
import random
import unittest

from keptparts.bridges import bridge, bridge_way, doubled, is_bridge, once_and_whole
from keptparts.errors import BadNumber, BadRun
from keptparts.growing import grows
from keptparts.judging import steady
from keptparts.markets import Join
from keptparts.rings import is_walk
from keptparts.useful import useful_runs
from support import (
    NO_INTEGERS, NO_ROWS, Case, all_runs, bridge_ends, bridged_runs, chain_rows, is_a_stock, market_over, random_runs,
)

FIVE = [(0, 1), (0, 2), (1, 2), (1, 3), (2, 3)]
WRONG_RUNS = ((0, 4), (-1, 1), (1, 1), (2, 1), (0,), (0, 1, 2), (0, True), (0, 1.0), None, 5, "01", True)


def right_bridge(size, runs, points, chains):
    """Whether it is a bridge, by the words of the document; points and chains are of the right form."""
    useful = {run for chain in chain_rows(runs, 0, size) for run in chain}
    met = []
    for (first, last), chain in zip(bridge_ends(points), chains):
        if not set(chain) <= useful or not chain or chain[0][0] != first or chain[-1][1] != last:
            return False
        if any(before[1] != after[0] for before, after in zip(chain, chain[1:])):
            return False
        met.append({first, last} | {end for _, end in chain})
    for (one, ends), (other, other_ends) in itertools.combinations(zip(met, bridge_ends(points)), 2):
        if (one & other) - (set(ends) & set(other_ends)):
            return False
    return points[0] < points[1] < points[2] < points[3]


def all_bridges(size, runs):
    """All bridges of a small set of runs."""
    useful = useful_runs(size, runs)
    for points in itertools.combinations(range(size + 1), 4):
        rows = [[chain for chain in chain_rows(useful, *ends) if chain] for ends in bridge_ends(points)]
        for chains in itertools.product(*rows):
            if right_bridge(size, useful, points, chains):
                yield points, chains


def run_sets(many, sizes=(3, 4, 5), most=9):
    """Small sets of runs; about half of them are made from a bridge."""
    for seed in range(many):
        size = sizes[seed % len(sizes)]
        made = size > 2 and random.Random(seed).random() < 0.6
        yield seed, size, bridged_runs(seed, size, most) if made else random_runs(seed, size, most)


class Bridges(Case):
    """Promises 108 and 109: bridges."""

    def test_small_sets(self):
        told = {True: 0, False: 0}
        for seed, size, runs in run_sets(400):
            found = bridge(size, runs)
            wanted = next(all_bridges(size, runs), None)
            self.same(found is not None, wanted is not None)
            told[wanted is not None] += bool(useful_runs(size, runs))
            if found is not None:
                self.check_bridge(size, runs, found)
        self.assertTrue(min(told.values()) > 50, told)

    def check_bridge(self, size, runs, found):
        points, chains = found
        self.assertTrue(right_bridge(size, runs, points, chains))
        self.same(is_bridge(size, runs, points, chains), True)
        self.same(found, (tuple(points), tuple(tuple(tuple(run) for run in chain) for chain in chains)))
        self.assertEqual(len(chains), 5)

    def test_long_chains(self):
        """The chains, and the ways to and from the bridge, may be of any length."""
        for seed in range(60):
            chance = random.Random(seed)
            points = sorted(chance.sample(range(31), 4))
            inner = [point for point in range(31) if point not in points]
            chance.shuffle(inner)
            runs = []
            for first, last in ((0, points[0]),) + bridge_ends(points) + ((points[3], 30),):
                within = [point for point in inner if first < point < last and chance.random() < 0.4]
                inner = [point for point in inner if point not in within]
                row = [first] + sorted(within) + [last]
                runs += [run for run in zip(row, row[1:]) if run[0] < run[1]]
            chance.shuffle(runs)
            found = bridge(30, runs)
            self.same(found[0], tuple(points))
            self.check_chains(runs, found)
            for run in runs:
                # Each run is needed here, so without any one of them there is no bridge.
                self.same(bridge(30, [other for other in runs if other != run]), None)

    def check_chains(self, runs, found):
        points, chains = found
        inner = list(points)
        for (first, last), chain in zip(bridge_ends(points), chains):
            self.same([first] + [end for _, end in chain], [begin for begin, _ in chain] + [last])
            self.assertTrue(set(chain) <= set(runs))
            inner += [end for _, end in chain[:-1]]
        self.assertEqual(len(inner), len(set(inner)))
        self.same(is_bridge(30, runs, points, chains), True)

    def test_great_sets(self):
        every = all_runs(30)
        self.check_chains(every, bridge(30, every))
        for seed in range(12):
            runs = random.Random(seed).sample(every, 60) + [(place, place + 1) for place in range(30)]
            self.check_chains(runs, bridge(30, runs))
            nested = [(0, 30), (0, 10), (10, 30)] + [(place, place + 1) for place in range(30)]
            self.same(bridge(30, nested + [(10 + seed, 12 + seed)]), None)

    def test_edges(self):
        self.same(bridge(3, FIVE), ((0, 1, 2, 3), (((0, 1),), ((0, 2),), ((1, 2),), ((1, 3),), ((2, 3),))))
        self.same(bridge(3, FIVE * 2 + [(0, 3)]), bridge(3, FIVE))
        for runs in ((), [(0, 1)], [(0, 3)], FIVE[:4], [(0, 2), (2, 3), (0, 1), (1, 3)]):
            self.same(bridge(3, runs), None)
        # Useless runs are in no bridge.
        self.same(bridge(4, FIVE), None)
        self.same(bridge(4, FIVE + [[3, 4], [2, 4]][:1]), bridge(3, FIVE))


class IsBridge(Case):
    """Promise 108: what is a bridge and what is none."""

    def test_all_bridges(self):
        for seed, size, runs in run_sets(80, (4, 5), 10):
            for points, chains in itertools.islice(all_bridges(size, runs), 10):
                self.same(is_bridge(size, runs, list(points), [[list(run) for run in row] for row in chains]), True)

    def test_changed_ones(self):
        told = {True: 0, False: 0}
        for seed, size, runs in run_sets(300, (4, 5), 10):
            found = bridge(size, runs)
            if found is None:
                continue
            chance = random.Random(seed)
            for _ in range(20):
                points, chains = list(found[0]), [list(chain) for chain in found[1]]
                what = chance.randrange(5)
                if what == 0:
                    points[chance.randrange(4)] = chance.randint(0, size)
                elif what == 1:
                    chains[chance.randrange(5)] = list(chance.choice(found[1]))
                elif what == 2:
                    chain = chance.choice(chains)
                    chain[chance.randrange(len(chain))] = chance.choice(all_runs(size))
                elif what == 3:
                    ends = chance.choice(bridge_ends(found[0]))
                    chains[bridge_ends(found[0]).index(ends)] = list(chance.choice(chain_rows(all_runs(size), *ends)))
                else:
                    chance.shuffle(chains)
                wanted = right_bridge(size, runs, points, chains)
                self.same(is_bridge(size, runs, points, chains), wanted)
                told[wanted] += 1
        self.assertTrue(min(told.values()) > 100, told)

    def test_other_values(self):
        points, chains = bridge(3, FIVE)
        wrong = [(value, chains) for value in NO_ROWS + ((0, 1, 2), (0, 1, 2, 3, 3), (0, 1, 2, "3"), (False, 1, 2, 3),
                                                         (0, 2, 1, 3), (3, 2, 1, 0), (0, 1, 1, 3), ((0,), 1, 2, 3))]
        wrong += [(points, value) for value in NO_ROWS + ((), chains[:4], chains + chains[:1])]
        for value in NO_ROWS + ((), ((0, 2),), ((0, 1), (0, 1)), (None,), ((0, 1, 2),), ((0, True),), (0, 1)):
            wrong.append((points, (value,) + chains[1:]))
            wrong.append((points, chains[:2] + (value,) + chains[3:]))
        for told in wrong:
            self.same(is_bridge(3, FIVE, *told), False)
        self.same(is_bridge(3, FIVE, list(points), [[[0, 1]], [[0, 2]], [(1, 2)], ([1, 3],), [[2, 3]]]), True)

    def test_runs_that_are_not_useful(self):
        """A bridge whose runs stand on no chain over the whole row is none."""
        points, chains = bridge(3, FIVE)
        self.same(is_bridge(3, FIVE[1:], points, chains), False)
        self.same(is_bridge(4, FIVE, points, chains), False)
        self.same(is_bridge(4, FIVE + [(3, 4)], points, chains), True)

    def test_points_within_chains(self):
        """A chain may not lead over a point of the bridge, nor over one of another chain."""
        runs = FIVE + [(2, 4), (3, 4), (0, 3), (1, 4)]
        chains = (((0, 1),), ((0, 2),), ((1, 2),), ((1, 3), (3, 4)), ((2, 4),))
        self.same(is_bridge(4, runs, (0, 1, 2, 4), chains), True)
        over = (((0, 1),), ((0, 2),), ((1, 2),), ((1, 2), (2, 4)), ((2, 4),))
        self.same(is_bridge(4, runs, (0, 1, 2, 4), over), False)
        shared = (((0, 1),), ((0, 2),), ((1, 2),), ((1, 3), (3, 4)), ((2, 3), (3, 4)))
        self.same(is_bridge(4, runs, (0, 1, 2, 4), shared), False)


class Markets(Case):
    """Promises 110 and 113: all markets over a set of runs."""

    def test_doubled(self):
        for seed, size, runs in run_sets(60, (1, 2, 3, 4)):
            useful = useful_runs(size, runs)
            self.same(doubled(size, runs) == Join(size, [run for run in useful for _ in (0, 1)]), True)
            self.same(once_and_whole(size, runs) == Join(size, list(useful) + [(0, size)]), True)
        self.same(doubled(2, []) == Join(2, []), True)
        self.same(once_and_whole(2, [(0, 1)]) == Join(2, [(0, 2)]), True)
        self.same(once_and_whole(2, [[0, 2]]).runs, ((0, 2), (0, 2)))

    def test_growing(self):
        """The doubled market grows exactly if the runs fold; then every market over them does."""
        told = {True: 0, False: 0}
        for seed, size, runs in run_sets(250, (3, 4)):
            useful = useful_runs(size, runs)
            folds = bridge(size, runs) is None
            if len(useful) <= 5:
                self.same(grows(doubled(size, runs)), folds)
                told[folds] += bool(useful)
            if folds:
                for extra in range(3):
                    market = market_over(seed + extra, size, runs)
                    if len(market.there()) <= 10:
                        self.same(grows(market), True)
            once = Join(size, useful)
            if 0 < len(useful) <= 5:
                self.same(grows(once * 2), folds)
        self.assertTrue(told[True] > 50 and told[False] > 5, told)

    def test_bridge_way(self):
        checked = 0
        for seed, size, runs in run_sets(200, (3, 4, 5), 10):
            told = bridge_way(size, runs)
            self.same(told is None, bridge(size, runs) is None)
            if told is not None:
                checked += 1
                self.check_way(size, runs, told)
        self.assertGreater(checked, 40)
        every = all_runs(30)
        self.check_way(30, every, bridge_way(30, every))
        self.same(bridge_way(3, []), None)
        self.same(bridge_way(3, [(0, 3), (0, 1)]), None)

    def check_way(self, size, runs, told):
        stock, outs, ins = told
        market = doubled(size, runs)
        self.assertTrue(is_a_stock(market, 1, stock))
        self.assertTrue(outs)
        self.same(is_walk(market, 1, stock, (0, size), outs, ins), True)
        self.same(told, tuple(tuple(sorted(row)) for row in told))

    def test_steady(self):
        """Promise 113: the market with each run once and the whole row has no mixed pair exactly if they fold."""
        told = {True: 0, False: 0}
        for seed, size, runs in run_sets(150, (3, 4)):
            useful = useful_runs(size, runs)
            if not useful or len(useful) > 8:
                continue
            folds = bridge(size, runs) is None
            self.same(steady(once_and_whole(size, runs), 1), folds)
            told[folds] += 1
            if folds:
                market = market_over(seed, size, useful, 1, whole=True)
                for number in range(4):
                    if any(is_a_stock(market, number, chosen) for count in range(market.many + 1)
                           for chosen in itertools.combinations(market.there(), count)):
                        self.same(steady(market, number), True)
        self.assertTrue(min(told.values()) > 10, told)


class Wrong(Case):
    """Promises 1 and 2."""

    def functions(self):
        return ((bridge, ()), (is_bridge, (None, None)), (doubled, ()), (once_and_whole, ()), (bridge_way, ()))

    def test_sizes_and_runs(self):
        for function, more in self.functions():
            for size in NO_INTEGERS + (0, -1, 31):
                self.fails(BadNumber, {"name": "size"}, function, size, None, *more)
            for runs in NO_ROWS:
                self.fails(BadRun, {"place": -1}, function, 3, runs, *more)
            for run in WRONG_RUNS:
                self.fails(BadRun, {"place": 1}, function, 3, [(0, 1), run, run], *more)
            self.order(function, (3, FIVE) + more, (
                (0, "3", BadNumber, {"name": "size"}), (1, FIVE + [(3, 3)], BadRun, {"place": 5}),
            ))

    def test_arguments_stay(self):
        runs = [list(run) for run in FIVE[::-1]]
        before = repr(runs)
        first = [function(3, runs) for function in (bridge, bridge_way)] + [doubled(3, runs).runs]
        self.assertEqual(repr(runs), before)
        self.same(first, [function(3, tuple(FIVE)) for function in (bridge, bridge_way)] + [doubled(3, FIVE).runs])


if __name__ == "__main__":
    unittest.main()
