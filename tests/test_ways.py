import itertools
import random
import unittest

from keptparts.errors import BadNumber, BadSet, NotAStock, NotJoin
from keptparts.markets import Join, Lap
from keptparts.ways import chain_of, is_way, ways
from support import NO_INTEGERS, Case, all_sets, is_a_stock, random_market, stocks


def chains(market, point=0):
    """The chains of parts from a point to the end of the row."""
    if point == market.size:
        return [()]
    found = []
    for part, (begin, end) in enumerate(market.runs):
        if begin == point and part not in market.gone:
            found.extend((part,) + rest for rest in chains(market, end))
    return found


class Ways(Case):
    """Promise 22."""

    def check(self, market, number, stock):
        told = ways(market, number, list(stock)[::-1])
        self.assertIs(type(told), list)
        self.assertEqual(len(told), number)
        for way in told:
            self.same(way, tuple(sorted(way)))
        self.assertEqual(sorted(itertools.chain(*told)), sorted(stock))
        for chosen in all_sets(range(number))[:64]:
            parts = tuple(part for k in chosen for part in told[k])
            self.assertTrue(is_a_stock(market, len(chosen), parts))

    def test_small_markets(self):
        checked = 0
        for seed in range(80):
            market = random_market(seed, None, 3, 8)
            for number in (1, 2, 3):
                for stock in stocks(market, number)[:6]:
                    self.check(market, number, stock)
                    checked += number > 1
        self.assertGreater(checked, 50)

    def test_great_markets(self):
        for seed in range(20):
            chance = random.Random(seed)
            cuts = [sorted(chance.sample(range(1, 30), 4)) for _ in range(12)]
            runs = [run for cut in cuts for run in zip([0] + cut, cut + [30])]
            chance.shuffle(runs)
            for kind in (Join, Lap):
                self.check(kind(30, runs), 12, range(60))
            self.check(Lap(30, runs), 7, range(60))

    def test_fifty(self):
        for kind in (Join, Lap):
            market = kind(1, [(0, 1)] * 60)
            self.assertEqual(sorted(ways(market, 50, list(range(50)))), [(part,) for part in range(50)])

    def test_errors(self):
        for kind in (Join, Lap):
            market = kind(2, [(0, 2), (0, 1), (1, 2), (0, 2)], gone=[3])
            for number in NO_INTEGERS + (0, -1, 51):
                self.fails(BadNumber, {"name": "number"}, ways, market, number, None)
            self.order(ways, (market, 1, [0]), (
                (1, 0, BadNumber, {"name": "number"}), (2, [0, 0], BadSet, {"place": 1}),
                (2, [1], NotAStock, {"place": 1}), (2, [0, 3], NotAStock, {"place": -1}),
            ))
            self.fails(NotAStock, {"place": 0}, ways, market, 2, [0])

    def test_lists_are_new(self):
        market = Lap(2, [(0, 2), (0, 1), (1, 2)])
        stock = [2, 0, 1]
        told = ways(market, 2, stock)
        told.clear()
        self.assertEqual(stock, [2, 0, 1])
        self.assertEqual(len(ways(market, 2, tuple(stock))), 2)


class Chains(Case):
    """Promise 22: chains and ways."""

    def test_chains_are_the_one_stocks(self):
        for seed in range(100):
            market = random_market(seed, Join, 5, 8)
            found = chains(market)
            self.same(sorted(tuple(sorted(chain)) for chain in found), stocks(market, 1))
            for chain in found:
                self.same(chain_of(market, sorted(chain)), chain)
                self.same(is_way(market, list(chain)), True)

    def test_is_way(self):
        lap_ways = 0
        for seed in range(100):
            market = random_market(seed)
            for chosen in all_sets(range(market.many)):
                wanted = is_a_stock(market, 1, chosen) and not any(
                    is_a_stock(market, 1, tuple(part for part in chosen if part != other)) for other in chosen
                )
                self.same(is_way(market, chosen[::-1]), wanted)
                lap_ways += wanted and market.KIND == "lap"
        self.assertGreater(lap_ways, 20)

    def test_edges(self):
        self.same(is_way(Lap(2, [(0, 2), (0, 1)]), [0, 1]), False)
        self.same(is_way(Lap(2, [(0, 2), (0, 1)]), [0]), True)
        self.same(is_way(Lap(2, [(0, 2), (0, 1)], gone=[0]), [0]), False)
        self.same(is_way(Join(2, []), []), False)
        self.same(chain_of(Join(3, [(2, 3), (0, 1), (1, 2)]), [0, 1, 2]), (1, 2, 0))

    def test_errors(self):
        join = Join(2, [(0, 2), (0, 1), (1, 2), (0, 2)], gone=[3])
        lap = Lap(2, join.runs)
        for way in (None, [9], [1], [0]):
            self.fails(NotJoin, {}, chain_of, lap, way)
        self.order(chain_of, (join, [0]), ((1, [0, 4], BadSet, {"place": 1}),))
        self.order(chain_of, (join, [0]), ((1, [1], NotAStock, {"place": 1}),))
        self.order(chain_of, (join, [0]), ((1, [3], NotAStock, {"place": -1}),))
        self.order(chain_of, (join, [0]), ((1, None, BadSet, {"place": -1}),))
        for market in (join, lap):
            self.fails(BadSet, {"place": -1}, is_way, market, None)
            self.fails(BadSet, {"place": 1}, is_way, market, [1, 1])


if __name__ == "__main__":
    unittest.main()
