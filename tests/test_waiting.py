import random
import unittest

from keptparts.cheapest import cheapest, price_of
from keptparts.errors import BadNumber, BadSet, BadWorld, IsGone
from keptparts.markets import Join, Lap
from keptparts.mending import mend_price
from keptparts.safety import is_safe
from keptparts.waiting import Wait, ahead, bound
from support import (
    NO_INTEGERS, NO_ROWS, Case, agreeing, all_sets, best_price, best_stocks, difference, great_market, lost_stocks,
    price, random_market, random_notes, random_world, stocks,
)


class Waiting(Case):
    """Promise 81."""

    def test_small_markets(self):
        none = held = short = 0
        for seed in range(80):
            market = random_market(seed)
            world = random_world(seed, market)
            costs = [best_price(world, stocks(market, k)) for k in range(6)]
            for j in range(3):
                wait = Wait(market, list(world), j)
                self.assertIs(wait.market, market)
                self.same((wait.world, wait.number), (world, j))
                found = stocks(market, j)
                for lost in all_sets(market.there()):
                    wanted = best_price(world, lost_stocks(found, lost))
                    self.same(wait(list(lost)[::-1]), wanted)
                    none += wanted is None
                    f = len(lost)
                    if f < 3 and costs[j + f] is not None:
                        held += 1
                        self.assertLessEqual(wanted + costs[f], costs[j + f])
                        self.assertLessEqual(wanted, bound(market, world, j, f))
                        short += wanted < bound(market, world, j, f)
                for f in range(3):
                    self.same(ahead(market, list(world), j, f), costs[j + f])
                    wanted = None if costs[j + f] is None else costs[j + f] - costs[f]
                    self.same(bound(market, list(world), j, f), wanted)
        self.assertTrue(none > 100 and held > 150 and short > 20, (none, held, short))

    def test_in_words(self):
        market = Join(3, [(0, 1), (0, 2), (1, 2), (1, 3), (2, 3), (0, 3)], gone=[5])
        world = (1, 10, 1, 10, 1, 0)
        self.same([ahead(market, world, k, 0) for k in range(4)], [0, 3, 22, None])
        self.same([bound(market, world, 1, 1), bound(market, world, 0, 2), bound(market, world, 2, 1)], [19, 0, None])
        self.same([Wait(market, world, 1)(lost) for lost in ((), [0], [4, 0], [3, 4])], [3, 11, None, None])
        self.same(Wait(market, world, 0)([0, 1, 2, 3, 4]), 0)
        self.same(Wait(market, world, 9)([]), None)
        for kind in (Join, Lap):
            self.same((Wait(kind(1, []), [], 0)(()), ahead(kind(1, []), [], 0, 0), bound(kind(1, []), [], 0, 1)),
                      (0, 0, None))

    def test_great_markets(self):
        for seed in range(6):
            market = great_market(seed)
            world = random_world(seed, market, 10 ** 30)
            lost = random.Random(seed).sample(market.there(), 2)
            for j in range(3):
                self.same(Wait(market, world, j)(lost), price_of(market.lose(lost), j, world))
                self.same(ahead(market, world, j, 2), price_of(market, j + 2, world))
                self.same(bound(market, world, j, 1), difference(price_of(market, j + 1, world),
                                                                 price_of(market, 1, world) or 0))
            self.same(ahead(market, world, 50, 50), None)


class LateIsNeverDearer(Case):
    """Promise 82."""

    def test_small_markets(self):
        checked = 0
        for seed in range(80):
            market = random_market(seed, None, 3, 7)
            world = random_world(seed, market)
            for j in range(1, 3):
                found = stocks(market, j)
                for f in range(j, 3):
                    most = ahead(market, world, j, f)
                    if most is None:
                        continue
                    for lost in all_sets(market.there()):
                        if len(lost) <= f:
                            for stock in best_stocks(world, found)[:2]:
                                checked += 1
                                late = mend_price(market, j, world, stock, lost)
                                self.assertLessEqual(price(world, stock) + late, most)
        self.assertGreater(checked, 200)

    def test_safe_stocks(self):
        checked = 0
        for seed in range(120):
            market = random_market(seed, None, 3, 6)
            notes = random_notes(seed, market, 8)
            for stock in stocks(market, 1):
                if stocks(market, 2) and is_safe(market, 1, notes, stock):
                    for world in agreeing(notes):
                        for part in market.there():
                            checked += 1
                            late = mend_price(market, 1, world, stock, [part])
                            self.assertLessEqual(price(world, stock) + late, ahead(market, world, 1, 1))
        self.assertGreater(checked, 50)

    def test_growing_markets(self):
        """A market with n = 2 grows at each size: then it holds for all sizes."""
        for seed in range(40):
            market = random_market(seed, Join, 2, 7)
            world = random_world(seed, market)
            for j in range(1, 4):
                for f in range(3):
                    most = ahead(market, world, j, f)
                    if most is not None:
                        stock = cheapest(market, j, world)
                        for lost in all_sets(market.there()):
                            if len(lost) <= f:
                                late = mend_price(market, j, world, stock, lost)
                                self.assertLessEqual(price(world, stock) + late, most)


class Wrong(Case):
    """Promises 1 and 2."""

    def markets(self):
        return [kind(2, [(0, 2), (0, 1), (1, 2), (0, 2), (0, 1)], gone=[3, 4]) for kind in (Join, Lap)]

    def test_orders(self):
        row = (1, 2, 3, 4, 5)
        world = (1, [1, 2, 3, 4, -5], BadWorld, {"place": 4})
        for market in self.markets():
            for wrong in NO_INTEGERS + (-1,):
                number = (2, wrong, BadNumber, {"name": "number"})
                losses = (3, wrong, BadNumber, {"name": "losses"})
                self.order(Wait, (market, row, 1), (world, number))
                for function in (ahead, bound):
                    self.order(function, (market, row, 1, 1), (world, number, losses))
                    self.fails(BadNumber, {"name": "losses"}, function, market, row, 99, wrong)
            for wrong in NO_ROWS:
                for function in (Wait, ahead, bound):
                    self.fails(BadWorld, {"place": -1}, function, market, wrong, *(1, 1)[:2 - (function is Wait)])

    def test_wrong_losses(self):
        for market in self.markets():
            wait = Wait(market, (1, 2, 3, 4, 5), 1)
            for wrong in NO_ROWS:
                self.fails(BadSet, {"place": -1}, wait, wrong)
            for wrong in NO_INTEGERS + (-1, 5, 0):
                self.fails(BadSet, {"place": 2}, wait, [0, 4, wrong])
            self.fails(IsGone, {"part": 3}, wait, [4, 0, 3])
        self.assertIn("__call__", vars(Wait))

    def test_arguments_stay(self):
        for market in self.markets():
            world, lost = [3, 1, 1, 0, 0], [2, 0]
            wait = Wait(market, world, 1)
            first = (wait(lost), ahead(market, world, 1, 0), bound(market, world, 0, 1))
            self.assertEqual((world, lost), ([3, 1, 1, 0, 0], [2, 0]))
            world[0] = 9
            self.same(wait.world, (3, 1, 1, 0, 0))
            self.same(first, (wait((0, 2)), ahead(market, (3, 1, 1, 0, 0), 1, 0),
                              bound(market, (3, 1, 1, 0, 0), 0, 1)))


if __name__ == "__main__":
    unittest.main()
