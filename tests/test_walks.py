import itertools
import random
import unittest

from keptparts.cheapest import cheapest
from keptparts.errors import BadDemand, BadPoint, BadSet, BadWorld, NotAStock, NotCheapest
from keptparts.markets import Join, Lap
from keptparts.rings import is_ring, is_walk, walks_between
from keptparts.walks import cheaper_ring, distances, move_price, shortest_walk, world_of
from support import (
    NO_INTEGERS, NO_ROWS, Case, behind, great_market, is_a_stock, price, random_cases, random_market, random_stock,
    random_world, ring_moves, row_of, steps, stocks, walk_moves,
)


def cost(world, told):
    return price(world, told[1]) - price(world, told[0])


class Worlds(Case):
    """Promise 31: worlds and prices."""

    def test_world_of(self):
        for kind in (Join, Lap):
            market = kind(2, [(0, 2), (0, 1)], gone=[1])
            self.same(world_of(market, [3, 0]), (3, 0))
            self.same(world_of(market, (10 ** 30, 1)), (10 ** 30, 1))
            self.same(world_of(kind(2, []), []), ())

    def test_wrong_worlds(self):
        functions = (
            world_of, lambda market, world: move_price(market, world, None, None),
            lambda market, world: cheaper_ring(market, 1, world, None),
            lambda market, world: distances(market, 1, world, None),
            lambda market, world: shortest_walk(market, 1, world, None, None),
        )
        for kind in (Join, Lap):
            market = kind(2, [(0, 2), (0, 1)])
            for function in functions:
                for world in NO_ROWS + ((), [1], (1, 2, 3)):
                    self.fails(BadWorld, {"place": -1}, function, market, world)
                for wrong in NO_INTEGERS + (-1,):
                    self.fails(BadWorld, {"place": 1}, function, market, [0, wrong])
                    self.fails(BadWorld, {"place": 0}, function, market, (wrong, -1))

    def test_move_price(self):
        for kind in (Join, Lap):
            market = kind(3, [(0, 2), (1, 3), (0, 3), (2, 3)], gone=[3])
            world = (5, 7, 11, 13)
            self.same(move_price(market, world, [0, 1], [2]), -1)
            self.same(move_price(market, list(world), (), [3, 0]), 18)
            self.same(move_price(market, world, [2], ()), -11)
            self.same(move_price(market, world, [], []), 0)
            self.same(move_price(market, world, [1], [1]), 0)
            self.order(move_price, (market, world, [], []), (
                (1, (1, 2, 3, -4), BadWorld, {"place": 3}), (2, [4], BadSet, {"place": 0}),
                (3, [0, 0], BadSet, {"place": 1}),
            ))


class Rings(Case):
    """Promise 32: cheapest stocks and rings with a price below 0."""

    def test_small_markets(self):
        cheaper = 0
        for seed, market, demand, found in random_cases(200):
            world = random_world(seed, market)
            for stock in found[:6]:
                told = cheaper_ring(market, demand, world, stock)
                lowest = min(price(world, other) for other in found)
                moves = ring_moves(market, demand, stock)
                self.assertEqual(price(world, stock) > lowest, any(cost(world, move) < 0 for move in moves))
                if price(world, stock) == lowest:
                    self.assertIsNone(told)
                    continue
                cheaper += 1
                self.assertIn(told, moves)
                self.assertLess(cost(world, told), 0)
                self.same(move_price(market, world, *told), cost(world, told))
                self.assertEqual(price(world, behind(stock, told)), price(world, stock) + cost(world, told))
        self.assertGreater(cheaper, 100)

    def test_great_markets(self):
        for seed in range(60):
            market = great_market(seed)
            stock, demand = random_stock(seed, market)
            world = random_world(seed, market, 10 ** 30)
            best = cheapest(market, demand, world)
            self.assertIsNone(cheaper_ring(market, demand, world, best))
            told = cheaper_ring(market, demand, world, stock)
            if price(world, stock) == price(world, best):
                self.assertIsNone(told)
            else:
                self.assertLess(cost(world, told), 0)
                self.same(is_ring(market, demand, stock, *told), True)

    def test_prices_of_zero(self):
        market = Lap(2, [(0, 2), (0, 1), (1, 2)])
        for stock in stocks(market, 1):
            self.assertIsNone(cheaper_ring(market, 1, (0, 0, 0), stock))
        self.assertIn(cheaper_ring(market, 1, (0, 1, 0), (1, 2)), [((1,), (0,)), ((1, 2), (0,))])
        self.same(cheaper_ring(market, 1, (0, 1, 0), (0, 1)), ((1,), ()))


class Walks(Case):
    """Promises 17 and 36: cheapest walks."""

    def test_small_markets(self):
        none = 0
        for seed, market, demand, found in random_cases(100):
            world = random_world(seed, market)
            lowest = min(price(world, stock) for stock in found)
            stock = next(stock for stock in found if price(world, stock) == lowest)
            table = distances(market, demand, world, list(stock)[::-1])
            self.assertEqual(len(table), market.size + 1)
            for first, last in itertools.product(range(market.size + 1), repeat=2):
                walks = walk_moves(market, demand, stock, first, last)
                wanted = min([cost(world, told) for told in walks], default=None)
                self.same(table[first][last], wanted)
                told = shortest_walk(market, demand, world, stock, [first, last])
                if wanted is None:
                    none += 1
                    self.assertIsNone(told)
                    continue
                self.same(told[0], wanted)
                self.assertIn(told[1], walks)
                self.assertEqual(cost(world, told[1]), wanted)
                if first == last:
                    self.same(told, (0, ((), ())))
            self.same(table, tuple(tuple(row) for row in table))
        self.assertGreater(none, 50)

    def test_behind_cheapest_walks(self):
        """Promise 36: they lead to cheapest stocks; where there is none, there is no stock."""
        for seed, market, demand, found in random_cases(60):
            world = random_world(seed, market)
            lowest = min(price(world, stock) for stock in found)
            stock = next(stock for stock in found if price(world, stock) == lowest)
            for first, last in itertools.permutations(range(market.size + 1), 2):
                by = 1 if first < last else -1
                low, high = sorted((first, last))
                row = [number + (by if low <= place < high else 0)
                       for place, number in enumerate(row_of(market, demand))]
                others = stocks(market, row)
                told = shortest_walk(market, demand, world, stock, (first, last))
                self.same(told is None, not others)
                if told:
                    self.assertIn(behind(stock, told[1]), others)
                    least = min(price(world, other) for other in others)
                    self.assertEqual(lowest + told[0], least)
                    for walk in walk_moves(market, demand, stock, first, last):
                        self.assertTrue(is_a_stock(market, row, behind(stock, walk)))

    def test_great_markets(self):
        for seed in range(12):
            market = great_market(seed)
            _, demand = random_stock(seed, market)
            world = random_world(seed, market, 10 ** 30)
            stock = cheapest(market, demand, world)
            table = distances(market, demand, world, stock)
            found = steps(market, demand, stock)
            for point in range(31):
                self.same(table[point][point], 0)
            for start, end, part in found:
                arc = 0 if part < 0 else world[part] if start < end else -world[part]
                for first in range(31):
                    if table[first][start] is not None:
                        self.assertLessEqual(table[first][end], table[first][start] + arc)
            for first, last in itertools.product(range(0, 31, 5), repeat=2):
                told = shortest_walk(market, demand, world, stock, (first, last))
                if table[first][last] is None:
                    self.assertIsNone(told)
                else:
                    self.same(told[0], table[first][last])
                    self.assertEqual(cost(world, told[1]), told[0])
                    self.same(is_walk(market, demand, stock, (first, last), *told[1]), True)

    def test_no_parts(self):
        self.same(distances(Join(2, []), 0, [], []), ((0, None, None), (None, 0, None), (None, None, 0)))
        self.same(distances(Lap(2, []), 0, [], []), ((0, None, None), (0, 0, None), (0, 0, 0)))
        self.same(distances(Lap(2, []), -1, [], []), ((0, 0, 0), (0, 0, 0), (0, 0, 0)))
        self.same(shortest_walk(Lap(2, []), 0, [], [], (2, 0)), (0, ((), ())))
        self.assertIsNone(shortest_walk(Lap(2, []), 0, [], [], (0, 2)))


class AnyTwoDemands(Case):
    """Promise 28."""

    def test_small_markets(self):
        checked = 0
        for seed in range(120):
            market = random_market(seed, None, 3, 6)
            chance = random.Random(seed)
            stock, demand = random_stock(seed, market)
            other, wanted = random_stock(seed + 500, market)
            before = begins_of(demand)
            after = begins_of(wanted)
            for first in range(market.size + 1):
                if after[first] <= before[first]:
                    continue
                found = []
                for last in range(market.size + 1):
                    if after[last] < before[last]:
                        back = walks_between(market, wanted, other, (last, first))
                        found.extend(
                            told for told in walks_between(market, demand, stock, (first, last))
                            if set(told[0]) <= set(stock) - set(other) and set(told[1]) <= set(other) - set(stock)
                            and (told[1], told[0]) in back
                        )
                self.assertTrue(found)
                self.same(is_walk(market, demand, stock, (first, first), (), ()), True)
                checked += 1
            chance.random()
        self.assertGreater(checked, 60)


def begins_of(row):
    return tuple(b - a for a, b in zip((0,) + tuple(row), tuple(row) + (0,)))


class Wrong(Case):
    """Promises 1 and 2."""

    def setUp(self):
        runs = [(0, 2), (0, 1), (1, 2), (0, 2)]
        self.world = (3, 1, 1, 0)
        self.markets = [kind(2, runs, gone=[3]) for kind in (Join, Lap)]

    def test_orders(self):
        for market in self.markets:
            demand = (1, [0, None], BadDemand, {"place": 1})
            world = (2, [3, 1, -1, 0], BadWorld, {"place": 2})
            stock = (3, [0, 4], BadSet, {"place": 1})
            short = (3, [1], NotAStock, {"place": 1})
            gone = (3, [3], NotAStock, {"place": -1})
            right = (market, 1, self.world, [1, 2])
            self.order(cheaper_ring, right, (demand, world, stock, short))
            self.order(cheaper_ring, right, (demand, world, stock, gone))
            self.order(distances, right, (demand, world, stock, short))
            pair = (4, (0, 3), BadPoint, {"point": 3})
            self.order(shortest_walk, right + ((0, 2),), (demand, world, stock, pair, short))
            self.order(shortest_walk, right + ((0, 2),), (demand, world, stock, pair, gone))

    def test_not_cheapest(self):
        for market in self.markets:
            fields = {"outs": (0,), "ins": (1, 2)}
            self.fails(NotCheapest, fields, distances, market, 1, self.world, [0])
            for run in ((0, 2), (1, 1), [2, 0]):
                self.fails(NotCheapest, fields, shortest_walk, market, 1, self.world, [0], run)
            self.fails(NotAStock, {"place": 1}, distances, market, 1, self.world, [1])
        for seed, market, demand, found in random_cases(60):
            world = random_world(seed, market)
            dear = max(found, key=lambda stock: price(world, stock))
            if price(world, dear) > min(price(world, stock) for stock in found):
                with self.assertRaises(NotCheapest) as caught:
                    distances(market, demand, world, dear)
                told = (caught.exception.outs, caught.exception.ins)
                self.assertIn(told, ring_moves(market, demand, dear))
                self.assertLess(cost(world, told), 0)

    def test_pairs_of_points(self):
        for market in self.markets:
            for pair in (None, 3, "01", (), (0,), (0, 1, 2), {0: 1, 1: 2}):
                self.fails(BadPoint, {"point": pair}, shortest_walk, market, 1, self.world, [], pair)
            for point in NO_INTEGERS + (-1, 3):
                self.fails(BadPoint, {"point": point}, shortest_walk, market, 1, self.world, [], [point, 9])
                self.fails(BadPoint, {"point": point}, shortest_walk, market, 1, self.world, [], (2, point))

    def test_arguments_stay(self):
        for market in self.markets:
            demand, world, stock, run = [1, 1], list(self.world), [2, 1], [0, 2]
            first = (distances(market, demand, world, stock), shortest_walk(market, demand, world, stock, run),
                     cheaper_ring(market, demand, world, stock), move_price(market, world, stock, run))
            self.assertEqual((demand, world, stock, run), ([1, 1], list(self.world), [2, 1], [0, 2]))
            again = (distances(market, 1, self.world, (1, 2)), shortest_walk(market, 1, self.world, (1, 2), (0, 2)),
                     cheaper_ring(market, 1, self.world, (1, 2)), move_price(market, self.world, (2, 1), (0, 2)))
            self.same(first, again)


if __name__ == "__main__":
    unittest.main()
