import random
import unittest

from keptparts.covers import check_stock
from keptparts.errors import BadDemand, BadSet, NotAStock, TooMany
from keptparts.markets import Join, Lap
from keptparts.stocks import beside_stock, has_stock, lean, some_stock, stocks_of
from support import (
    Case, all_sets, behind, great_market, is_a_stock, random_cases, random_demand, random_market, random_stock,
    ring_moves, stocks,
)


class Stocks(Case):
    """Promises 7 and 23: some stock, all stocks."""

    def test_small_markets(self):
        none = 0
        for seed in range(300):
            market = random_market(seed)
            demand = random_demand(seed + 7, market)
            found = stocks(market, demand)
            self.same(stocks_of(market, demand), found)
            self.same(has_stock(market, demand), bool(found))
            told = some_stock(market, demand)
            if found:
                self.assertIn(told, found)
            else:
                none += 1
                self.assertIsNone(told)
        self.assertGreater(none, 20)

    def test_edges(self):
        for kind in (Join, Lap):
            empty = kind(2, [])
            self.same((some_stock(empty, 0), has_stock(empty, 0), stocks_of(empty, 0)), ((), True, [()]))
            self.same((some_stock(empty, 1), has_stock(empty, 1), stocks_of(empty, 1)), (None, False, []))
            self.same(has_stock(empty, -1), kind is Lap)
            market = kind(2, [(0, 2), (0, 1), (1, 2)], gone=[0])
            self.same(some_stock(market, 1), (1, 2))
            self.same(stocks_of(market, [1, 1]), [(1, 2)])
            self.same(stocks_of(market, 2), [])
        self.same(stocks_of(Join(2, [(0, 2), (0, 1), (1, 2)]), 1), [(0,), (1, 2)])
        self.same(stocks_of(Lap(2, [(0, 2), (0, 1)]), [2, -1]), [(0, 1)])
        self.same(stocks_of(Join(2, [(0, 2), (0, 1)]), [2, -1]), [])
        self.same(stocks_of(Join(1, [(0, 1)] * 2), 0), [()])
        self.same(stocks_of(Lap(1, [(0, 1)] * 2), 0), [(), (0,), (0, 1), (1,)])

    def test_great_markets(self):
        for seed in range(60):
            market = great_market(seed)
            stock, demand = random_stock(seed, market)
            self.same(has_stock(market, demand), True)
            self.assertTrue(is_a_stock(market, demand, some_stock(market, demand)))
            self.assertIsNone(some_stock(market, 50))
            self.assertIsNone(some_stock(market, [61] + [-50] * 29))
            if market.KIND == "join":
                self.assertIsNone(some_stock(market, [50, -50] * 15))
                self.assertIsNone(some_stock(market, -50))
            else:
                self.assertIsNotNone(some_stock(market, -50))

    def test_twelve_parts(self):
        for kind in (Join, Lap):
            market = kind(1, [(0, 1)] * 14, gone=[3])
            for demand in (1, 50, -1):
                self.fails(TooMany, {"number": 13}, stocks_of, market, demand)
            self.fails(BadDemand, {"place": 0}, stocks_of, market, [None])
            fewer = market - [0]
            sizes = (3,) if kind is Join else (3, 4, 5, 6, 7, 8, 9, 10, 11, 12)
            wanted = [chosen for chosen in all_sets(fewer.there()) if len(chosen) in sizes]
            self.same(stocks_of(fewer, 3), sorted(wanted))

    def test_long_rows(self):
        for seed in range(10):
            chance = random.Random(seed)
            runs = [tuple(sorted(chance.sample(range(31), 2))) for _ in range(9)]
            market = (Join, Lap)[seed % 2](30, runs)
            stock, demand = random_stock(seed, market)
            self.same(stocks_of(market, demand), stocks(market, demand))


class Beside(Case):
    """Promises 18 and 19: stocks one ring away."""

    def test_small_markets(self):
        for seed, market, demand, found in random_cases(100):
            for stock in found[:4]:
                wanted = sorted({behind(stock, told) for told in ring_moves(market, demand, stock)})
                self.same(beside_stock(market, demand, stock), wanted)

    def test_closed_lists_hold_all_stocks(self):
        for seed, market, demand, found in random_cases(100):
            closed = [random.Random(seed).choice(found)]
            for stock in closed:
                closed.extend(other for other in beside_stock(market, demand, stock) if other not in closed)
            self.same(sorted(closed), found)

    def test_too_many(self):
        for kind in (Join, Lap):
            market = kind(1, [(0, 1)] * 12, gone=[11])
            self.fails(TooMany, {"number": 11}, beside_stock, market, 1, [0])
            self.fails(NotAStock, {"place": 0}, beside_stock, market, 2, [0])
            self.assertIn((9,), beside_stock(market - [10], 1, [0]))


class Lean(Case):
    """lean: a stock within the stock, none of whose parts can be left out."""

    def check(self, market, demand, stock):
        told = lean(market, demand, stock)
        self.assertTrue(set(told) <= set(stock))
        self.same(told, tuple(sorted(told)))
        self.assertTrue(is_a_stock(market, demand, told))
        for part in told:
            self.assertFalse(is_a_stock(market, demand, tuple(other for other in told if other != part)))
        if market.KIND == "join":
            self.same(told, tuple(sorted(stock)))

    def test_small_markets(self):
        for _, market, demand, found in random_cases(100):
            for stock in found:
                self.check(market, demand, list(stock)[::-1])

    def test_great_markets(self):
        for seed in range(30):
            market = great_market(seed)
            stock, demand = random_stock(seed, market)
            self.check(market, demand, stock)

    def test_edges(self):
        self.same(lean(Lap(2, [(0, 2), (0, 1)]), 0, [0, 1]), ())
        self.same(lean(Lap(2, [(0, 2), (0, 1)]), -3, []), ())
        self.same(lean(Lap(2, [(0, 1), (0, 2), (1, 2)]), [2, 1], [0, 1, 2]), (0, 1))


class Wrong(Case):
    """Promises 1 and 2."""

    def test_orders(self):
        for kind in (Join, Lap):
            market = kind(2, [(0, 2), (0, 1), (1, 2), (0, 2)], gone=[3])
            faults = ((1, [1], BadDemand, {"place": -1}), (2, [0, 4], BadSet, {"place": 1}),
                      (2, [1], NotAStock, {"place": 1}), (2, [3], NotAStock, {"place": -1}))
            for function in (beside_stock, lean):
                self.order(function, (market, 1, [0]), faults)
            for function in (some_stock, has_stock, stocks_of):
                self.order(function, (market, 1), ((1, True, BadDemand, {"place": -1}),))
                self.order(function, (market, 1), ((1, [1, 1.0], BadDemand, {"place": 1}),))

    def test_lists_are_new(self):
        for kind in (Join, Lap):
            market = kind(2, [(0, 2), (0, 1), (1, 2)])
            demand, stock = [1, 1], [2, 1]
            for function, more in ((stocks_of, ()), (beside_stock, (stock,))):
                told = function(market, demand, *more)
                told.append("more")
                self.assertNotIn("more", function(market, demand, *more))
            lean(market, demand, stock)
            some_stock(market, demand)
            self.assertEqual((demand, stock), ([1, 1], [2, 1]))
            self.same(some_stock(market, [1, 1]), some_stock(market, 1))
            self.same(check_stock(market, 1, stock), (1, 2))


if __name__ == "__main__":
    unittest.main()
