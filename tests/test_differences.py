import itertools
import random
import unittest

from keptparts.differences import split_rings, split_run, split_sizes
from keptparts.errors import BadDemand, BadNumber, BadPoint, BadSet, NotAStock
from keptparts.markets import Join, Lap
from keptparts.rings import is_ring, is_walk
from support import (
    NO_INTEGERS, Case, all_sets, behind, covers, great_market, is_a_stock, parts_of, random_cases, random_stock,
    ring_moves, row_of, stocks, walk_moves,
)


def selections(chance, moves):
    """All selections of the moves, or some of them if there are many."""
    if len(moves) <= 5:
        return [[moves[k] for k in chosen] for chosen in all_sets(range(len(moves)))]
    return [[told for told in moves if chance.random() < 0.5] for _ in range(20)] + [moves]


def together(stock, moves):
    """The stock behind all the moves at once."""
    outs, ins = parts_of(moves)
    return behind(stock, (outs, ins))


class Splitting(Case):
    """What the tests of all splits share."""

    def check_moves(self, stock, other, moves):
        outs, ins = parts_of(moves)
        self.assertEqual(outs, sorted(set(stock) - set(other)))
        self.assertEqual(ins, sorted(set(other) - set(stock)))
        for told in moves:
            self.assertIs(type(told), tuple)
            self.same(told, (tuple(sorted(told[0])), tuple(sorted(told[1]))))

    def check_rings(self, market, demand, stock, other, moves, small):
        self.assertIs(type(moves), list)
        rings = set(ring_moves(market, demand, stock)) if small else None
        for told in moves:
            self.same(is_ring(market, demand, stock, told[0], told[1]), True)
            if small:
                self.assertIn(told, rings)


class SplitRings(Splitting):
    """Promise 19."""

    def check(self, market, demand, stock, other, small=True):
        moves = split_rings(market, demand, list(stock)[::-1], other)
        self.check_moves(stock, other, moves)
        self.check_rings(market, demand, stock, other, moves, small)
        for chosen in selections(random.Random(1), moves):
            self.assertTrue(is_a_stock(market, demand, together(stock, chosen)))

    def test_small_markets(self):
        for seed, market, demand, found in random_cases(60):
            chance = random.Random(seed)
            for stock, other in itertools.product(chance.sample(found, min(4, len(found))), repeat=2):
                self.check(market, demand, stock, other)

    def test_great_markets(self):
        for seed in range(60):
            market = great_market(seed)
            stock, counts = random_stock(seed, market)
            other, more = random_stock(seed + 1000, market)
            if market.KIND == "lap":
                demand = tuple(min(pair) for pair in zip(counts, more))
                self.check(market, demand, stock, other, small=False)
                self.check(market, -50, stock, other, small=False)

    def test_great_join_markets(self):
        for seed in range(30):
            chance = random.Random(seed)
            cuts = [sorted(chance.sample(range(1, 30), 4)) for _ in range(12)]
            runs = [run for cut in cuts for run in zip([0] + cut, cut + [30])]
            market = Join(30, runs)
            stock = [part for k in range(6) for part in range(5 * k, 5 * k + 5)]
            other = [part for k in range(3, 9) for part in range(5 * k, 5 * k + 5)]
            self.check(market, 6, stock, other, small=False)

    def test_no_difference(self):
        for kind in (Join, Lap):
            self.same(split_rings(kind(2, [(0, 2)]), 1, [0], [0]), [])
            self.same(split_rings(kind(2, []), 0, [], ()), [])


class SplitRun(Splitting):
    """Promise 20."""

    def check(self, market, demand, run, stock, other, small=True):
        told = split_run(market, demand, run, stock, list(other)[::-1])
        self.assertIs(type(told), tuple)
        walk, moves = told
        self.check_moves(stock, other, [walk] + moves)
        self.check_rings(market, demand, stock, other, moves, small)
        self.same(is_walk(market, demand, stock, run, walk[0], walk[1]), True)
        if small:
            self.assertIn(walk, walk_moves(market, demand, stock, *run))
        by = (run[1] > run[0]) - (run[1] < run[0])
        wanted = [number + (by if min(run) <= place < max(run) else 0)
                  for place, number in enumerate(row_of(market, demand))]
        for chosen in selections(random.Random(1), moves):
            self.assertTrue(is_a_stock(market, demand, together(stock, chosen)))
            self.assertTrue(is_a_stock(market, wanted, together(stock, [walk] + chosen)))
        return walk

    def test_small_markets(self):
        up = down = bare = 0
        for seed, market, demand, found in random_cases(60, most_places=3):
            chance = random.Random(seed)
            stock = chance.choice(found)
            for run in itertools.product(range(market.size + 1), repeat=2):
                by = (run[1] > run[0]) - (run[1] < run[0])
                wanted = [number + (by if min(run) <= place < max(run) else 0)
                          for place, number in enumerate(row_of(market, demand))]
                others = stocks(market, wanted)
                for other in chance.sample(others, min(3, len(others))):
                    walk = self.check(market, demand, run, stock, other)
                    up += by > 0
                    down += by < 0
                    bare += by != 0 and walk == ((), ())
        self.assertTrue(up > 30 and down > 30 and bare > 10)

    def test_great_markets(self):
        for seed in range(60):
            market = great_market(seed)
            stock, demand = random_stock(seed, market)
            chance = random.Random(seed)
            first, last = chance.sample(range(31), 2)
            extra = [part for part in range(60) if part not in stock and part not in market.gone]
            for part in extra[:3]:
                self.check(market, demand, market.runs[part], stock, stock + (part,), small=False)
            for part in stock[:3]:
                rest = tuple(other for other in stock if other != part)
                self.check(market, demand, market.runs[part][::-1], stock, rest, small=False)
            if market.KIND == "lap":
                other = tuple(part for part in range(60) if part not in market.gone)
                low, high = sorted((first, last))
                counts = covers(market, other)
                demand = [min(number, count - 1) for number, count in zip(demand, counts)]
                self.check(market, demand, (low, high), stock, other, small=False)
                self.check(market, demand, (high, low), stock, other, small=False)

    def test_equal_points(self):
        for kind in (Join, Lap):
            market = kind(2, [(0, 2), (0, 1), (1, 2)])
            for point in range(3):
                walk, moves = split_run(market, 1, [point, point], [0], (1, 2))
                self.same((walk, moves), (((), ()), split_rings(market, 1, [0], (1, 2))))
                self.assertEqual(parts_of(moves), ([0], [1, 2]))
                self.fails(NotAStock, {"place": 0}, split_run, market, 1, [point, point], [0], ())


class SplitSizes(Splitting):
    """Promise 21."""

    def check(self, market, demand, number, stock, other, small=True):
        told = split_sizes(market, demand, number, stock, list(other)[::-1])
        self.assertIs(type(told), tuple)
        ways, moves = told
        self.assertIs(type(ways), list)
        self.assertEqual(len(ways), number)
        self.check_moves(stock, other, ways + moves)
        self.check_rings(market, demand, stock, other, moves, small)
        for way in ways:
            self.same(is_walk(market, demand, stock, (0, market.size), way[0], way[1]), True)
            if small:
                self.assertIn(way, walk_moves(market, demand, stock, 0, market.size))
        for chosen in selections(random.Random(1), ways):
            wanted = [count + len(chosen) for count in row_of(market, demand)]
            for more in selections(random.Random(2), moves)[:40]:
                self.assertTrue(is_a_stock(market, wanted, together(stock, chosen + more)))

    def test_small_markets(self):
        checked = 0
        for seed, market, demand, found in random_cases(80, most_places=3, most_parts=7):
            chance = random.Random(seed)
            for number in range(4):
                wanted = [count + number for count in row_of(market, demand)]
                others = stocks(market, wanted)
                for other in chance.sample(others, min(2, len(others))):
                    self.check(market, demand, number, chance.choice(found), other)
                    checked += number > 1
        self.assertGreater(checked, 40)

    def test_great_markets(self):
        for seed in range(20):
            chance = random.Random(seed)
            cuts = [sorted(chance.sample(range(1, 30), 4)) for _ in range(12)]
            runs = [run for cut in cuts for run in zip([0] + cut, cut + [30])]
            for kind in (Join, Lap):
                market = kind(30, runs)
                for number in (0, 1, 5, 7):
                    stock = list(range(15))
                    other = list(range(10, 25 + 5 * number))
                    self.check(market, 3, number, stock, other, small=False)

    def test_fifty_ways(self):
        for kind in (Join, Lap):
            market = kind(1, [(0, 1)] * 60)
            ways, moves = split_sizes(market, 1, 50, [0], list(range(51)))
            self.assertEqual((sorted(ways), moves), ([((), (part,)) for part in range(1, 51)], []))
        ways, moves = split_sizes(Lap(2, []), -50, 50, [], [])
        self.same((ways, moves), ([((), ())] * 50, []))

    def test_number(self):
        for kind in (Join, Lap):
            market = kind(1, [(0, 1)] * 2)
            for number in NO_INTEGERS + (-1, 51):
                self.fails(BadNumber, {"name": "number"}, split_sizes, market, 1, number, [0], [0, 1])
            self.fails(NotAStock, {"place": 0}, split_sizes, market, 1, 50, [0], [0, 1])


class Wrong(Case):
    """Promises 1 and 2."""

    def setUp(self):
        runs = [(0, 2), (0, 1), (1, 2), (0, 2)]
        self.markets = [kind(2, runs, gone=[3]) for kind in (Join, Lap)]

    def test_orders(self):
        demand = (1, None, BadDemand, {"place": -1})
        for market in self.markets:
            faults = (demand, (2, [4], BadSet, {"place": 0}), (3, "x", BadSet, {"place": -1}),
                      (2, [1], NotAStock, {"place": 1}), (3, [3], NotAStock, {"place": -1}))
            self.order(split_rings, (market, 1, [0], [1, 2]), faults)
            pair = (2, (0, 7), BadPoint, {"point": 7})
            faults = (demand, pair, (3, [4], BadSet, {"place": 0}), (4, "x", BadSet, {"place": -1}),
                      (3, [1], NotAStock, {"place": 1}), (4, [2], NotAStock, {"place": 0}))
            self.order(split_run, (market, 1, (0, 2), [0], [0, 1, 2]), faults)
            number = (2, 51, BadNumber, {"name": "number"})
            faults = (demand, number, (3, [4], BadSet, {"place": 0}), (4, "x", BadSet, {"place": -1}),
                      (3, [1], NotAStock, {"place": 1}), (4, [0], NotAStock, {"place": 0}))
            self.order(split_sizes, (market, 1, 1, [0], [0, 1, 2]), faults)

    def test_pairs_of_points(self):
        for market in self.markets:
            for pair in (None, 3, "01", (), (0,), (0, 1, 2)):
                self.fails(BadPoint, {"point": pair}, split_run, market, 1, pair, [0], [0])
            for point in NO_INTEGERS + (-1, 3):
                self.fails(BadPoint, {"point": point}, split_run, market, 1, [point, 9], [0], [0])
                self.fails(BadPoint, {"point": point}, split_run, market, 1, (2, point), [0], [0])

    def test_arguments_stay(self):
        for market in self.markets:
            demand, run, stock, other, more = [1, 1], [0, 2], [0], [2, 1], [2, 0, 1]
            first = (split_rings(market, demand, stock, other), split_run(market, demand, run, stock, more),
                     split_sizes(market, demand, 1, stock, more))
            self.assertEqual((demand, run, stock, other, more), ([1, 1], [0, 2], [0], [2, 1], [2, 0, 1]))
            again = (split_rings(market, 1, (0,), (1, 2)), split_run(market, 1, (0, 2), (0,), (0, 1, 2)),
                     split_sizes(market, 1, 1, (0,), (0, 1, 2)))
            self.same(first, again)
            first[0].clear()
            first[1][1].append("more")
            first[2][0].clear()
            third = (split_rings(market, demand, stock, other), split_run(market, demand, run, stock, more),
                     split_sizes(market, demand, 1, stock, more))
            self.same(again, third)


if __name__ == "__main__":
    unittest.main()
