import random
import unittest

from keptparts.errors import BadDemand, BadPoint, BadSet, NotAStock, TooMany
from keptparts.markets import Join, Lap
from keptparts.rings import growing_ways, is_ring, is_walk, rings, walks_between
from support import (
    NO_INTEGERS, Case, all_sets, behind, covers, great_market, is_a_stock, random_cases, random_stock, ring_moves,
    ring_rows, row_of, steps, walk_moves, walk_rows,
)

NO_PAIRS = (None, 3, "01", (), (0,), (0, 1, 2), [1], {0: 1, 1: 2}, True)


def every_ring(market, demand, stock):
    return list(rings(market, demand, stock))


def every_growing_way(market, demand, stock):
    return list(growing_ways(market, demand, stock))


class Listing(Case):
    """Promise 17: the rings and walks of a stock, each move once, in ascending order."""

    def test_small_markets(self):
        bare = 0
        for seed, market, demand, found in random_cases(160):
            stock = random.Random(seed).choice(found)
            moves = ring_moves(market, demand, stock)
            self.same(every_ring(market, demand, stock), moves)
            for first in range(market.size + 1):
                for last in range(market.size + 1):
                    walks = walk_moves(market, demand, stock, first, last)
                    self.assertEqual(len(walks), len(set(walks)), "a move tells its walk")
                    self.same(walks_between(market, demand, stock, (first, last)), walks)
                    bare += first != last and ((), ()) in walks
            ways = walk_moves(market, demand, stock, 0, market.size)
            self.same(every_growing_way(market, demand, stock), ways)
        self.assertGreater(bare, 50)

    def test_empty_moves(self):
        market = Lap(3, [(0, 3), (0, 3), (1, 2)], gone=[2])
        self.same(walks_between(market, 1, [0, 1], (0, 3))[0], ((), ()))
        self.same(walks_between(market, 1, [0], (3, 0)), [((), ()), ((0,), ())])
        self.same(every_ring(Lap(3, []), 0, ()), [])
        self.same(every_growing_way(Lap(3, []), 0, ()), [])
        self.same(every_growing_way(Lap(3, []), -1, ()), [((), ())])
        self.same(every_growing_way(Join(3, []), 0, ()), [])

    def test_equal_points(self):
        for kind in (Join, Lap):
            market = kind(2, [(0, 2), (0, 1), (1, 2)])
            for point in range(3):
                self.same(walks_between(market, 1, [0], (point, point)), [((), ())])

    def test_rings_of_two_points(self):
        market = Join(2, [(0, 2), (0, 2), (0, 2)])
        self.same(every_ring(market, 1, [1]), [((1,), (0,)), ((1,), (2,))])
        market = Lap(2, [(0, 2), (0, 2)])
        self.same(every_ring(market, 1, [1]), [((), (0,)), ((1,), (0,))])
        self.same(every_ring(market, 0, [1]), [((), (0,)), ((1,), ()), ((1,), (0,))])

    def test_ten_parts(self):
        for kind in (Join, Lap):
            many = kind(2, [(0, 2), (0, 1), (1, 2)] * 5, gone=[0, 3, 6, 9, 12])
            self.same(every_ring(many, 1, (1, 2)), ring_moves(many, 1, (1, 2)))
            self.same(every_growing_way(many, 1, (1, 2)), walk_moves(many, 1, (1, 2), 0, 2))
            self.same(walks_between(many, 1, (1, 2), [2, 1]), walk_moves(many, 1, (1, 2), 2, 1))

    def test_long_rows(self):
        for seed in range(12):
            chance = random.Random(seed)
            runs = [tuple(sorted(chance.sample(range(31), 2))) for _ in range(7)]
            market = (Join, Lap)[seed % 2](30, runs, gone=[6])
            stock, demand = random_stock(seed, market)
            self.same(every_ring(market, demand, stock), ring_moves(market, demand, stock))
            self.same(every_growing_way(market, demand, stock), walk_moves(market, demand, stock, 0, 30))


class Asking(Case):
    """Promises 16 to 18: whether two sets are a ring or a walk."""

    def test_all_pairs_of_sets(self):
        for seed, market, demand, found in random_cases(40, most_parts=5):
            stock = random.Random(seed).choice(found)
            moves = set(ring_moves(market, demand, stock))
            first, last = random.Random(seed).choices(range(market.size + 1), k=2)
            walks = set(walk_moves(market, demand, stock, first, last))
            for outs in all_sets(range(market.many)):
                for ins in all_sets(range(market.many)):
                    told = is_ring(market, demand, stock, outs[::-1], list(ins))
                    self.same(told, (outs, ins) in moves)
                    told = is_walk(market, demand, stock, [first, last], list(outs)[::-1], ins)
                    self.same(told, (outs, ins) in walks)

    def test_all_moves(self):
        for seed, market, demand, found in random_cases(80):
            stock = random.Random(seed).choice(found)
            there = [part for part in range(market.many) if part not in market.gone]
            moves = set(ring_moves(market, demand, stock))
            for chosen in all_sets(there):
                outs = tuple(part for part in chosen if part in stock)
                ins = tuple(part for part in chosen if part not in stock)
                self.same(is_ring(market, demand, stock, outs, ins), (outs, ins) in moves)

    def test_great_markets(self):
        asked = 0
        for seed in range(40):
            market = great_market(seed)
            stock, demand = random_stock(seed, market)
            found = steps(market, demand, stock)
            chance = random.Random(seed)
            for _ in range(25):
                # A random walk through the steps that meets no point twice, and is closed if it can be.
                start = point = chance.randint(0, 30)
                met, row = {start}, []
                for _ in range(chance.randint(1, 30)):
                    free = [step for step in found if step[0] == point and step[1] not in met]
                    if not free:
                        break
                    row.append(chance.choice(free))
                    point = row[-1][1]
                    met.add(point)
                outs = tuple(sorted(part for begin, end, part in row if part >= 0 and begin > end))
                ins = tuple(sorted(part for begin, end, part in row if part >= 0 and begin < end))
                self.same(is_walk(market, demand, stock, (start, point), outs, ins), True)
                back = [step for step in found if step[0] == point and step[1] == start and step[2] >= 0]
                if row and back and back[0] not in row:
                    asked += 1
                    step = back[0]
                    if step[0] > step[1]:
                        outs = tuple(sorted(outs + (step[2],)))
                    else:
                        ins = tuple(sorted(ins + (step[2],)))
                    self.same(is_ring(market, demand, stock, outs, ins), True)
                    there = behind(stock, (outs, ins))
                    self.assertTrue(is_a_stock(market, demand, there))
                    self.same(is_ring(market, demand, there, ins, outs), True)
        self.assertGreater(asked, 20)

    def test_two_rings_are_no_ring(self):
        for kind in (Join, Lap):
            market = kind(4, [(0, 2), (0, 2), (2, 4), (2, 4)])
            self.same(is_ring(market, 1, [0, 2], [0], [1]), True)
            self.same(is_ring(market, 1, [0, 2], [2], [3]), True)
            self.same(is_ring(market, 1, [0, 2], [0, 2], [1, 3]), False)
            self.same(is_walk(market, 1, [0, 2], (0, 2), (), (1,)), True)
            self.same(is_walk(market, 1, [0, 2], (0, 2), (2,), (1, 3)), False)
        market = Join(4, [(0, 1), (0, 1), (3, 4), (3, 4), (1, 3)])
        self.same(is_ring(market, 1, [0, 2, 4], [0, 2], [1, 3]), False)

    def test_bare_steps(self):
        market = Lap(3, [(0, 2), (1, 3), (0, 3), (1, 2)])
        self.same(is_ring(market, 1, [0, 1], (), (2,)), True)
        self.same(is_ring(market, 1, [0, 1], (0,), ()), False)
        self.same(is_ring(market, [0, 1, 1], [0, 1], (0,), ()), True)
        self.same(is_ring(market, [1, 0, 1], [0, 1], (0,), ()), False)
        self.same(is_ring(market, [1, 0, 1], [0, 1], (0, 1), (2,)), True)
        self.same(is_ring(Lap(2, [(0, 2), (0, 1), (1, 2)]), 1, [0], (0,), (1,)), False)

    def test_no_parts_at_all(self):
        for kind in (Join, Lap):
            market = kind(2, [(0, 2), (0, 1), (1, 2)])
            self.same(is_ring(market, 1, [0], (), ()), False)
            self.same(is_walk(market, 1, [0], (1, 1), (), ()), True)
            self.same(is_walk(market, 1, [0], (1, 1), (), (1,)), False)
            self.same(is_walk(market, 1, [0], (2, 2), (0,), ()), False)
            self.same(is_walk(market, 1, [0], (2, 1), (), ()), kind is Lap)
            self.same(is_walk(market, 1, [0], (1, 2), (), ()), False)

    def test_parts_that_cannot_move(self):
        for kind in (Join, Lap):
            market = kind(2, [(0, 2), (0, 2), (0, 2)], gone=[2])
            self.same(is_ring(market, 1, [0], [0], [1]), True)
            self.same(is_ring(market, 1, [0], [0], [2]), False)
            self.same(is_ring(market, 1, [0], [2], [1]), False)
            self.same(is_ring(market, 1, [0], [1], [1]), False)
            self.same(is_ring(market, 1, [0], [0], [0]), False)
            self.same(is_ring(market, 1, [1], [0], [1]), False)
            self.same(is_walk(market, 1, [0], (0, 2), [], [2]), False)
            self.same(is_walk(market, 1, [0], (0, 2), [], [0]), False)
            self.same(is_walk(market, 1, [0], (2, 0), [1], []), False)


class Promises(Case):
    """Promises 18, 20 and 21: what is behind a ring or a walk."""

    def test_behind_rings(self):
        for seed, market, demand, found in random_cases(60):
            stock = random.Random(seed).choice(found)
            for told in rings(market, demand, stock):
                there = behind(stock, told)
                self.assertTrue(is_a_stock(market, demand, there))
                self.same(is_ring(market, demand, there, told[1], told[0]), True)
                if market.KIND == "join":
                    self.assertTrue(told[0] and told[1])

    def test_behind_walks(self):
        for seed, market, demand, found in random_cases(60):
            stock = random.Random(seed).choice(found)
            for first in range(market.size + 1):
                for last in range(market.size + 1):
                    by = (last > first) - (last < first)
                    low, high = sorted((first, last))
                    row = [number + (by if low <= place < high else 0)
                           for place, number in enumerate(row_of(market, demand))]
                    for told in walks_between(market, demand, stock, (first, last)):
                        self.assertTrue(is_a_stock(market, row, behind(stock, told)))

    def test_growing_ways_are_walks_from_end_to_end(self):
        for seed, market, demand, found in random_cases(40):
            stock = random.Random(seed).choice(found)
            told = every_growing_way(market, demand, stock)
            self.same(told, walks_between(market, demand, stock, (0, market.size)))
            more = [number + 1 for number in row_of(market, demand)]
            for way in told:
                self.assertTrue(is_a_stock(market, more, behind(stock, way)))

    def test_splits_with_few_bare_steps(self):
        """Promise 18: exactly the splits with few bare steps to the right lead to stocks."""
        too_many = 0
        for seed, market, demand, found in random_cases(60, most_parts=5):
            stock = random.Random(seed).choice(found)
            rows = ring_rows(market, demand, stock)
            self.same(every_ring(market, demand, stock), sorted(rows))
            pairs = zip(covers(market, stock), row_of(market, demand))
            spare = tuple(count - number for count, number in pairs)
            start = ((), (), (0,) * market.size)
            reached, waiting = {start}, [start]
            while waiting:
                outs, ins, used = waiting.pop()
                for told, row in rows.items():
                    if set(told[0] + told[1]) & set(outs + ins):
                        continue
                    rights = [step[0] for step in row if step[2] == -1 and step[0] < step[1]]
                    more = (tuple(sorted(outs + told[0])), tuple(sorted(ins + told[1])),
                            tuple(number + (place in rights) for place, number in enumerate(used)))
                    if more not in reached:
                        reached.add(more)
                        waiting.append(more)
            fine = {behind(stock, more) for more in reached if all(u <= s for u, s in zip(more[2], spare))}
            too_many += len(reached) - len(fine)
            self.assertEqual(sorted(fine), found)
        self.assertGreater(too_many, 0)


class Wrong(Case):
    """Promise 2: the errors and their order."""

    def setUp(self):
        runs = [(0, 2), (0, 1), (1, 2), (0, 2)]
        self.markets = [kind(2, runs, gone=[3]) for kind in (Join, Lap)]

    def test_orders(self):
        demand = (1, (1, True), BadDemand, {"place": 1})
        for market in self.markets:
            stock = (2, [0, 4], BadSet, {"place": 1})
            short = (2, [1], NotAStock, {"place": 1})
            gone = (2, [3], NotAStock, {"place": -1})
            pair = (3, (0, 3), BadPoint, {"point": 3})
            for no_stock in (short, gone):
                self.order(every_ring, (market, 1, [0]), (demand, stock, no_stock))
                self.order(every_growing_way, (market, 1, [0]), (demand, stock, no_stock))
                self.order(walks_between, (market, 1, [0], (0, 2)), (demand, stock, pair, no_stock))
                outs = (3, 5, BadSet, {"place": -1})
                ins = (4, [0, 0], BadSet, {"place": 1})
                self.order(is_ring, (market, 1, [0], [], []), (demand, stock, outs, ins, no_stock))
                outs = (4, [True], BadSet, {"place": 0})
                ins = (5, [-1], BadSet, {"place": 0})
                self.order(is_walk, (market, 1, [0], (0, 2), [], []), (demand, stock, pair, outs, ins, no_stock))

    def test_pairs_of_points(self):
        for market in self.markets:
            for function in (
                lambda pair: walks_between(market, 1, [0], pair), lambda pair: is_walk(market, 1, [0], pair, [], []),
            ):
                for pair in NO_PAIRS:
                    self.fails(BadPoint, {"point": pair}, function, pair)
                for point in NO_INTEGERS + (-1, 3):
                    self.fails(BadPoint, {"point": point}, function, (0, point))
                    self.fails(BadPoint, {"point": point}, function, [point, 9])

    def test_too_many(self):
        for kind in (Join, Lap):
            market = kind(2, [(0, 2)] * 12, gone=[11])
            for function in (every_ring, every_growing_way):
                self.fails(TooMany, {"number": 11}, function, market, 1, [0])
                self.fails(NotAStock, {"place": 0}, function, market, 1, [])
                self.assertTrue(function(market - [10], 1, [0]))
            self.fails(TooMany, {"number": 11}, walks_between, market, 1, [0], (1, 1))
            self.fails(BadPoint, {"point": 5}, walks_between, market, 1, [0], (5, 1))
            self.fails(NotAStock, {"place": 0}, walks_between, market, 1, [], (0, 2))
            self.same(walks_between(market - [10], 1, [0], (1, 1)), [((), ())])

    def test_generators_raise_at_the_first_move(self):
        market = Join(2, [(0, 2)] * 11)
        for function in (rings, growing_ways):
            for arguments in ((market, 1, [0]), (market, None, None), (market, 1, [99]), (market, 1, [])):
                moves = function(*arguments)
                with self.assertRaises(ValueError):
                    next(moves)

    def test_arguments_stay(self):
        for market in self.markets:
            demand, stock, pair, outs, ins = [1, 1], [0], [0, 2], [0], [2, 1]
            told = walks_between(market, demand, stock, pair)
            first = (every_ring(market, demand, stock), is_ring(market, demand, stock, outs, ins), list(told),
                     is_walk(market, demand, stock, pair, outs, ins))
            self.assertEqual((demand, stock, pair, outs, ins), ([1, 1], [0], [0, 2], [0], [2, 1]))
            told.clear()
            again = (every_ring(market, (1, 1), (0,)), is_ring(market, 1, (0,), (0,), (1, 2)),
                     walks_between(market, 1, (0,), (0, 2)), is_walk(market, 1, (0,), (0, 2), (0,), (1, 2)))
            self.same(first, again)

    def test_support(self):
        """The rows that the tests go through meet no point twice."""
        market = Lap(2, [(0, 2), (0, 1), (1, 2)])
        for row in walk_rows(steps(market, 1, (0,)), 2, 0):
            points = [row[0][0]] + [step[1] for step in row]
            self.assertEqual(len(points), len(set(points)))


if __name__ == "__main__":
    unittest.main()
