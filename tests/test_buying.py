import itertools
import unittest

from keptparts.budgets import cost_steps
from keptparts.buying import Buying, right_up_to
from keptparts.cuts import strength
from keptparts.errors import BadNumber, BadWorld, NotJoin
from keptparts.growing import going_back, grows
from keptparts.leaving import leaving_world
from keptparts.lengths import lengths_world
from keptparts.markets import Join, Lap
from keptparts.ways import is_way
from support import (
    NO_INTEGERS, NO_ROWS, Case, best_price, great_ways, price, random_market, random_world, stocks, stocks_by_size,
)

FIVE = [(0, 1), (0, 2), (1, 2), (1, 3), (2, 3)]


def join_cases(many, **more):
    for seed in range(many):
        market = random_market(seed, Join, **more)
        yield seed, market, random_world(seed, market)


class Purchases(Case):
    """Promises 92 and 96: a run of purchases, way after way."""

    def test_small_markets(self):
        ways = 0
        for seed, market, world in join_cases(150, most_parts=8):
            run = Buying(market, list(world))
            self.same((run.ways, run.bought, run.spent, len(run)), ((), (), 0, 0))
            bought = []
            while True:
                rest = market.lose([part for way in bought for part in way])
                found = stocks(rest, 1)
                self.same(run.stopped, not found)
                way = run.buy()
                if not found:
                    self.same(way, None)
                    break
                self.assertIn(way, found)
                self.assertEqual(price(world, way), best_price(world, found))
                self.same(is_way(rest, way), True)
                bought.append(way)
                self.check_state(run, bought, world)
            self.check_state(run, bought, world)
            self.same(run.buy(), None)
            self.check_state(run, bought, world)
            ways += len(bought)
        self.assertGreater(ways, 100)

    def check_state(self, run, bought, world):
        parts = sorted(part for way in bought for part in way)
        self.same(run.ways, tuple(bought))
        self.same(run.bought, tuple(parts))
        self.same(run.spent, price(world, parts))
        self.same(len(run), len(bought))
        self.same(list(run), bought)

    def test_buy_many(self):
        for seed, market, world in join_cases(80, most_parts=8):
            one, many = Buying(market, world), Buying(market, world)
            single = []
            while not one.stopped:
                single.append(one.buy())
            self.same(many.buy_many(0), [])
            first = many.buy_many(1)
            self.same(first, single[:1])
            first.append("more")
            rest = many.buy_many(10 ** 30)
            self.same(rest, single[1:])
            rest.clear()
            self.same((many.buy_many(3), many.stopped), ([], True))
            self.same((many.ways, many.bought, many.spent), (one.ways, one.bought, one.spent))

    def test_only_its_own_purchases_change_it(self):
        market, world = Join(2, [(0, 1), (0, 1), (1, 2), (1, 2), (0, 2)], gone=[4]), [1, 4, 2, 3, 0]
        run, other = Buying(market, world), Buying(market, world)
        self.assertIs(run.market, market)
        self.same(run.world, (1, 4, 2, 3, 0))
        world[0] = 100
        self.same(run.buy(), (0, 2))
        list(run).clear()
        self.same((run.ways, run.bought, run.spent, run.stopped, len(run)), (((0, 2),), (0, 2), 3, False, 1))
        self.same((other.ways, other.bought, other.spent, len(other)), ((), (), 0, 0))
        self.same(other.buy_many(5), [(0, 2), (1, 3)])
        self.same((run.ways, run.buy(), run.buy(), run.stopped), (((0, 2),), (1, 3), None, True))
        self.same(market, market)
        self.assertEqual((market.gone, market.runs), ((4,), ((0, 1), (0, 1), (1, 2), (1, 2), (0, 2))))

    def test_no_parts(self):
        for market in (Join(1, []), Join(2, [(0, 1)]), Join(1, [(0, 1)], gone=[0])):
            run = Buying(market, [3] * market.many)
            self.same((run.stopped, run.buy(), run.buy_many(2), run.spent, len(run), list(run)),
                      (True, None, [], 0, 0, []))

    def test_great_markets(self):
        for seed in range(4):
            market = great_ways(seed, 7, kind=Join)
            world = random_world(seed, market, 10 ** 30)
            run = Buying(market, world)
            bought = run.buy_many(99)
            self.same(run.stopped, True)
            self.assertEqual(strength(market - run.bought), 0)
            self.assertGreaterEqual(len(bought), 1)
            for number, way in enumerate(bought):
                rest = market.lose([part for other in bought[:number] for part in other])
                self.assertTrue(is_way(rest, way))
                self.assertEqual(price(world, way), cost_steps(rest, world)[0])


class Right(Case):
    """Promises 95 and 96: how far buying way after way is right."""

    def test_small_markets(self):
        """If the market grows, it is right up to the strength; else as far as the same run is."""
        told = {True: 0, False: 0}
        for seed, market, world in join_cases(200, most_places=3, most_parts=8):
            costs = [best_price(world, found) for found in stocks_by_size(market)]
            run = Buying(market, world)
            right = 0
            while right + 1 < len(costs) and run.buy() is not None and run.spent == costs[right + 1]:
                right += 1
            for number in (0, 1, 2, 5, 10 ** 30):
                self.same(right_up_to(market, list(world), number), min(number, right))
                if grows(market):
                    self.same(right_up_to(market, world, number), min(number, len(costs) - 1))
            told[right == len(costs) - 1] += len(costs) > 2
        self.assertGreater(told[True], 40)

    def test_where_it_fails(self):
        """In the world of a growing way of a 1-stock that gives a part back."""
        checked = 0
        for extra in itertools.combinations_with_replacement(FIVE + [(0, 3)], 2):
            market = Join(3, FIVE + list(extra))
            if grows(market):
                continue
            checked += 1
            world = lengths_world(market, *going_back(market, 1))
            self.same(right_up_to(market, world, strength(market)), 1)
            self.same(right_up_to(market, world, 0), 0)
        self.assertGreater(checked, 15)
        market = Join(3, FIVE)
        self.same(right_up_to(market, leaving_world(market, 1, 2), 2), 1)
        self.same(right_up_to(market, (1, 10, 1, 10, 1), 2), 1)
        self.same(right_up_to(market, (3, 3, 9, 3, 3), 2), 2)

    def test_edges(self):
        self.same(right_up_to(Join(1, []), (), 5), 0)
        self.same(right_up_to(Join(1, [(0, 1)] * 3, gone=[1]), (1, 0, 1), 5), 2)

    def test_great_markets(self):
        for seed in range(3):
            # Runs that lie within one another or apart always fold, so the market grows.
            runs = [(0, 30), (0, 15), (15, 30), (0, 5), (5, 15), (15, 20), (20, 30)] * 8
            world = random_world(seed, Join(30, runs), 10 ** 30)
            market = Join(30, runs, gone=[seed, 9])
            self.same(right_up_to(market, world, 10 ** 30), strength(market))


class Wrong(Case):
    """Promises 1 and 2."""

    def test_values(self):
        market = Join(2, [(0, 1), (1, 2)])
        run = Buying(market, (1, 1))
        for value in NO_INTEGERS + (-1,):
            self.fails(BadNumber, {"name": "number"}, run.buy_many, value)
            self.fails(BadNumber, {"name": "number"}, right_up_to, market, (1, 1), value)
        self.same((len(run), run.spent), (0, 0))
        for world in NO_ROWS + ((1,), [1, 2, 3]):
            self.fails(BadWorld, {"place": -1}, Buying, market, world)
            self.fails(BadWorld, {"place": -1}, right_up_to, market, world, 1)

    def test_orders(self):
        runs = [(0, 1), (1, 2)]
        self.order(Buying, (Join(2, runs), (1, 1)), (
            (0, Lap(2, runs), NotJoin, {}), (1, (1, -1), BadWorld, {"place": 1}),
        ))
        self.order(right_up_to, (Join(2, runs), (1, 1), 1), (
            (0, Lap(2, runs), NotJoin, {}), (1, (1, -1), BadWorld, {"place": 1}),
            (2, None, BadNumber, {"name": "number"}),
        ))


if __name__ == "__main__":
    unittest.main()
