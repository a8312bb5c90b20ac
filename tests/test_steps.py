import random
import unittest

from keptparts.errors import BadDemand, BadPart, BadSet, IsGone, NotAStock
from keptparts.markets import Join, Lap
from keptparts.steps import moved, steps_of, turned_back
from support import NO_INTEGERS, NO_ROWS, Case, random_cases, ring_moves, steps, stocks


class Steps(Case):
    """Promise 16: the steps of a stock."""

    def test_join(self):
        market = Join(3, [(0, 2), (2, 3), (0, 3), (0, 2), (1, 3)], gone=[4])
        self.same(steps_of(market, 1, [1, 0]), [(0, 2, 3), (0, 3, 2), (2, 0, 0), (3, 2, 1)])

    def test_lap(self):
        market = Lap(3, [(0, 2), (1, 3), (0, 3)], gone=[])
        wanted = [(0, 3, 2), (1, 0, -1), (1, 2, -1), (2, 0, 0), (2, 1, -1), (3, 1, 1), (3, 2, -1)]
        self.same(steps_of(market, 1, (0, 1)), wanted)
        self.same(steps_of(Lap(1, []), 0, ()), [(1, 0, -1)])
        self.same(steps_of(Lap(1, []), -1, ()), [(0, 1, -1), (1, 0, -1)])
        self.same(steps_of(Join(1, []), 0, ()), [])

    def test_all_stocks(self):
        for _, market, demand, found in random_cases(150):
            for stock in found:
                self.same(steps_of(market, demand, stock), steps(market, demand, stock))

    def test_new_list(self):
        market = Lap(2, [(0, 1), (1, 2)])
        stock = [1, 0]
        demand = [1, 1]
        told = steps_of(market, demand, stock)
        told.pop()
        self.assertEqual((stock, demand), ([1, 0], [1, 1]))
        self.same(steps_of(market, (1, 1), (0, 1)), steps(market, 1, (0, 1)))


class Moves(Case):
    """Promises 17 and 18: a stock behind a move."""

    def test_moved(self):
        for kind in (Join, Lap):
            market = kind(3, [(0, 2), (2, 3), (0, 3), (0, 2), (1, 3)], gone=[4])
            self.same(moved(market, 1, [1, 0], [1, 0], [2]), (2,))
            self.same(moved(market, 1, (1, 0), (), [3, 2]), (0, 1, 2, 3))
            self.same(moved(market, 1, (1, 0), [1], ()), (0,))
            self.same(moved(market, 1, (2,), (), ()), (2,))

    def test_rings_lead_to_stocks(self):
        for _, market, demand, found in random_cases(60):
            for stock in found[:4]:
                for outs, ins in ring_moves(market, demand, stock):
                    there = moved(market, demand, stock, outs, ins)
                    self.assertIn(there, found)
                    back = turned_back((outs, ins))
                    self.same(moved(market, demand, there, *back), stock)
                    self.assertIn(back, ring_moves(market, demand, there))

    def test_turned_back(self):
        self.same(turned_back(((1, 2), (0,))), ((0,), (1, 2)))
        self.same(turned_back(((), ())), ((), ()))
        self.same(turned_back(turned_back(((3,), ()))), ((3,), ()))


class Wrong(Case):
    """Promise 2: the errors and their order."""

    def setUp(self):
        runs = [(0, 2), (2, 3), (0, 3), (0, 2), (1, 3), (0, 1)]
        self.markets = [kind(3, runs, gone=[5, 4]) for kind in (Join, Lap)]
        self.calls = (
            steps_of, lambda market, demand, stock: moved(market, demand, stock, [2], [3]),
        )

    def test_demand_before_stock(self):
        for market in self.markets:
            for call in self.calls:
                self.fails(BadDemand, {"place": -1}, call, market, (1, 1), None)
                self.fails(BadDemand, {"place": 1}, call, market, (1, True, 1), [9])

    def test_no_set(self):
        for market in self.markets:
            for call in self.calls:
                for stock in NO_ROWS:
                    self.fails(BadSet, {"place": -1}, call, market, 1, stock)
                for part in NO_INTEGERS + (-1, 6):
                    self.fails(BadSet, {"place": 1}, call, market, 1, [5, part])

    def test_no_stock(self):
        for market in self.markets:
            for call in self.calls:
                self.fails(NotAStock, {"place": 0}, call, market, 1, ())
                self.fails(NotAStock, {"place": 2}, call, market, 1, (0,))
                self.fails(NotAStock, {"place": -1}, call, market, 1, (5, 4))
                self.fails(NotAStock, {"place": -1}, call, market, 9, (0, 1, 5))

    def test_sets_of_moved(self):
        for market in self.markets:
            for parts in NO_ROWS:
                self.fails(BadSet, {"place": -1}, moved, market, 1, (), parts, None)
                self.fails(BadSet, {"place": -1}, moved, market, 1, (), [0], parts)
            self.fails(BadSet, {"place": 1}, moved, market, 1, (), [0, 0], [4])
            self.fails(BadSet, {"place": 1}, moved, market, 1, (), [0], [4, 4])

    def test_gone_before_not_a_stock(self):
        for market in self.markets:
            self.fails(IsGone, {"part": 4}, moved, market, 1, (), [3], [5, 0, 4])
            self.fails(IsGone, {"part": 5}, moved, market, 1, [2], [3], [5])
            self.fails(NotAStock, {"place": 0}, moved, market, 1, (), [3], [0])

    def test_parts_on_the_wrong_side(self):
        for market in self.markets:
            self.fails(BadPart, {"part": 1}, moved, market, 1, [2], [3, 1], [])
            self.fails(BadPart, {"part": 2}, moved, market, 1, [2], [3], [2])
            self.fails(BadPart, {"part": 0}, moved, market, 1, [0, 1], [3], [2, 1, 0])
            self.fails(BadPart, {"part": 3}, moved, market, 1, [2], [3], [3])
            self.fails(BadPart, {"part": 2}, moved, market, 1, [2], [2], [2])
            self.fails(BadPart, {"part": 4}, moved, market, 1, [2], [4], [])

    def test_arguments_stay(self):
        for market in self.markets:
            stock, outs, ins, demand = [1, 0], [1, 0], [2], [1, 1, 1]
            self.same(moved(market, demand, stock, outs, ins), (2,))
            self.assertEqual((stock, outs, ins, demand), ([1, 0], [1, 0], [2], [1, 1, 1]))


class Selections(Case):
    """Promise 18: sets of parts that are split into rings (join)."""

    def test_stocks_and_rings(self):
        for seed, market, demand, found in random_cases(40, kind=Join):
            chance = random.Random(seed)
            stock = chance.choice(found)
            moves = ring_moves(market, demand, stock)
            for outs, ins in moves:
                self.assertTrue(outs and ins)
            reached = {stock}
            waiting = [((), ())]
            met = set(waiting)
            while waiting:
                outs, ins = waiting.pop()
                reached.add(moved(market, demand, stock, outs, ins))
                for more_outs, more_ins in moves:
                    if not set(more_outs + more_ins) & set(outs + ins):
                        more = (tuple(sorted(outs + more_outs)), tuple(sorted(ins + more_ins)))
                        if more not in met:
                            met.add(more)
                            waiting.append(more)
            self.assertEqual(sorted(reached), found)
            self.assertEqual(found, stocks(market, demand))


if __name__ == "__main__":
    unittest.main()
