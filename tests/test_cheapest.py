import random
import unittest

from keptparts.cheapest import cheapest, cheapest_stocks, is_cheapest, price_of
from keptparts.errors import BadDemand, BadSet, BadWorld, NotAStock, TooMany
from keptparts.heights import fitting, fits, value_of
from keptparts.markets import Join, Lap
from keptparts.rings import growing_ways
from support import (
    NO_ROWS, Case, behind, great_market, is_a_stock, price, random_cases, random_demand, random_market, random_stock,
    random_world, stocks,
)


class Cheapest(Case):
    """Promises 31 and 32."""

    def test_small_markets(self):
        none = 0
        for seed in range(300):
            market = random_market(seed, None, 4, 7)
            demand = random_demand(seed + 11, market)
            world = random_world(seed, market)
            found = stocks(market, demand)
            if not found:
                none += 1
                self.assertIsNone(cheapest(market, demand, world))
                self.assertIsNone(price_of(market, demand, world))
                self.same(cheapest_stocks(market, demand, world), [])
                continue
            lowest = min(price(world, stock) for stock in found)
            best = [stock for stock in found if price(world, stock) == lowest]
            self.assertIn(cheapest(market, demand, world), best)
            self.same(price_of(market, demand, list(world)), lowest)
            self.same(cheapest_stocks(market, demand, list(world)), best)
            for stock in found:
                self.same(is_cheapest(market, demand, world, stock[::-1]), stock in best)
        self.assertGreater(none, 20)

    def test_lap_demands_with_dips(self):
        for seed in range(150):
            chance = random.Random(seed)
            market = random_market(seed, Lap, 6, 8)
            demand = [chance.choice((-2, 0, 0, 1, 2, 3)) for _ in range(market.size)]
            world = random_world(seed, market)
            found = stocks(market, demand)
            wanted = min([price(world, stock) for stock in found], default=None)
            self.same(price_of(market, demand, world), wanted)
            if found:
                self.assertIn(cheapest(market, demand, world), found)

    def test_parts_taken_back_on_the_way(self):
        runs = [(3, 4), (2, 3), (2, 4), (1, 4), (0, 2), (0, 4), (2, 4), (1, 3), (1, 2)]
        market, demand, world = Lap(4, runs), [1, 2, 3, 2], (5, 2, 6, 6, 6, 4, 2, 3, 6)
        found = stocks(market, demand)
        lowest = min(price(world, stock) for stock in found)
        self.same(price_of(market, demand, world), lowest)
        self.assertIn(cheapest(market, demand, world), found)

    def test_great_markets(self):
        for seed in range(60):
            market = great_market(seed)
            stock, demand = random_stock(seed, market)
            world = random_world(seed, market, 10 ** 30)
            best = cheapest(market, demand, world)
            self.assertTrue(is_a_stock(market, demand, best))
            self.same(price_of(market, demand, world), price(world, best))
            self.assertLessEqual(price(world, best), price(world, stock))
            self.same(is_cheapest(market, demand, world, best), True)
            self.same(is_cheapest(market, demand, world, stock), price(world, stock) == price(world, best))
            heights = fitting(market, demand, world, best)
            self.same(fits(market, demand, world, best, heights), True)
            self.same(value_of(market, demand, world, heights), price(world, best))
            for wrong in (50, [50, -50] * 15, [-50, 50] * 15):
                self.assertIsNone(cheapest(market, wrong, world))

    def test_greatest_demands(self):
        for kind in (Join, Lap):
            market = kind(30, [(0, 30)] * 60)
            world = [10 ** 30 - part for part in range(60)]
            self.same(cheapest(market, 50, world), tuple(range(10, 60)))
            self.same(price_of(market, 50, world), 50 * 10 ** 30 - sum(range(10, 60)))
            self.assertIsNone(cheapest(market, 61, world))
        self.same(cheapest(Lap(30, [(0, 30)] * 60), [50, -50] * 15, [1] * 60)[:1] != (), True)
        self.same(price_of(Lap(30, [(0, 30)] * 60), [50, -50] * 15, [1] * 60), 50)
        self.same(cheapest(Lap(30, [(0, 30)] * 60), -50, [1] * 60), ())

    def test_edges(self):
        for kind in (Join, Lap):
            self.same(cheapest(kind(1, []), 0, []), ())
            self.same(price_of(kind(1, []), 0, ()), 0)
            self.same(cheapest_stocks(kind(1, []), 0, []), [()])
            self.assertIsNone(cheapest(kind(1, []), 1, []))
            market = kind(2, [(0, 2), (0, 2), (0, 1), (1, 2)], gone=[0])
            self.same(cheapest(market, 1, (0, 5, 2, 2)), (2, 3))
            self.same(price_of(market, 1, (0, 5, 3, 3)), 5)
            self.same(cheapest_stocks(market, 1, (0, 4, 2, 2)), [(1,), (2, 3)])
            self.same(price_of(market, 2, (0, 4, 2, 2)), 8)
            self.assertIsNone(price_of(market, 3, (0, 4, 2, 2)))
        self.assertIsNone(price_of(Join(2, [(0, 2)]), [0, -1], [1]))
        self.same(price_of(Lap(2, [(0, 2)]), [0, -1], [1]), 0)

    def test_prices_of_zero(self):
        market = Lap(1, [(0, 1)] * 3)
        self.same(cheapest_stocks(market, 1, (0, 0, 1)), [(0,), (0, 1), (1,)])
        self.same(is_cheapest(market, 1, (0, 0, 1), (0, 1)), True)
        self.same(is_cheapest(market, 1, (0, 0, 1), (0, 2)), False)

    def test_twelve_parts(self):
        for kind in (Join, Lap):
            market = kind(1, [(0, 1)] * 14, gone=[3])
            for demand in (1, 50):
                self.fails(TooMany, {"number": 13}, cheapest_stocks, market, demand, [1] * 14)
            self.fails(BadWorld, {"place": -1}, cheapest_stocks, market, 1, [1] * 13)
            fewer = market - [0]
            wanted = [(part,) for part in range(1, 14) if part != 3]
            self.same(cheapest_stocks(fewer, 1, [1] * 14), wanted)

    def test_growing(self):
        """Promise 36: each cheapest k-stock has a growing way to a cheapest (k + 1)-stock."""
        for seed in range(60):
            market = random_market(seed, None, 3, 7)
            world = random_world(seed, market)
            for k in range(3):
                if not stocks(market, k + 1):
                    continue
                after = cheapest_stocks(market, k + 1, world)
                for stock in cheapest_stocks(market, k, world):
                    self.assertTrue(any(behind(stock, way) in after for way in growing_ways(market, k, stock)))


class Wrong(Case):
    """Promises 1 and 2."""

    def test_orders(self):
        for kind in (Join, Lap):
            market = kind(2, [(0, 2), (0, 1), (1, 2), (0, 2)], gone=[3])
            demand = (1, [1], BadDemand, {"place": -1})
            world = (2, [1, 2, 3, True], BadWorld, {"place": 3})
            for function in (cheapest, price_of, cheapest_stocks):
                self.order(function, (market, 1, [1] * 4), (demand, world))
                for wrong in NO_ROWS:
                    self.fails(BadWorld, {"place": -1}, function, market, 1, wrong)
            stock = (3, [0, 4], BadSet, {"place": 1})
            self.order(is_cheapest, (market, 1, [1] * 4, [0]), (demand, world, stock, (
                3, [1], NotAStock, {"place": 1},
            )))
            self.fails(NotAStock, {"place": -1}, is_cheapest, market, 1, [1] * 4, [3])

    def test_arguments_stay(self):
        for _, market, demand, found in random_cases(20):
            world = list(random_world(3, market))
            row = [demand] * market.size if isinstance(demand, int) else list(demand)
            stock = list(found[0])[::-1]
            before = (list(world), list(row), list(stock))
            first = (cheapest(market, row, world), price_of(market, row, world),
                     cheapest_stocks(market, row, world), is_cheapest(market, row, world, stock))
            self.assertEqual((world, row, stock), before)
            first[2].append("more")
            again = (cheapest(market, demand, tuple(world)), price_of(market, demand, tuple(world)),
                     cheapest_stocks(market, demand, tuple(world)) + ["more"],
                     is_cheapest(market, demand, tuple(world), found[0]))
            self.same(first, again)


if __name__ == "__main__":
    unittest.main()
