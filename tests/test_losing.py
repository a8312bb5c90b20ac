import random
import unittest

from keptparts.cheapest import price_of
from keptparts.critical import critical_price
from keptparts.cuts import state_of
from keptparts.errors import BadDemand, BadPart, BadSet, BadWorld, IsGone, NoStock
from keptparts.losing import Losing, by_tables
from keptparts.markets import Join, Lap
from keptparts.tables import Table
from support import (
    NO_INTEGERS, NO_ROWS, Case, all_sets, best_price, best_stocks, covers, difference, great_market, lost_stocks,
    random_cases, random_stock, random_world, row_of,
)


class Losses(Case):
    """Promise 76."""

    def test_small_markets(self):
        none = some = over = 0
        for seed, market, demand, found in random_cases(120):
            world = random_world(seed, market)
            losing = Losing(market, demand, list(world))
            base = best_price(world, found)
            self.assertIs(losing.market, market)
            self.same((losing.demand, losing.world, losing.price), (row_of(market, demand), world, base))
            for lost in all_sets(market.there()):
                wanted = difference(best_price(world, lost_stocks(found, lost)), base)
                self.same(losing(list(lost)[::-1]), wanted)
                self.same(losing(lost), difference(price_of(market.lose(lost), demand, world), base))
                none += wanted is None
                some += wanted is not None and wanted > 0
            self.same(losing(()), 0)
            over += any(covers(market, stock) > row_of(market, demand) for stock in best_stocks(world, found)
                        if market.KIND == "lap")
        self.assertTrue(none > 100 and some > 100 and over > 10)

    def test_one_part(self):
        """Promise 77."""
        told = {}
        for seed, market, demand, found in random_cases(120):
            world = random_world(seed, market)
            losing = Losing(market, demand, world)
            table = Table(market, demand, world)
            base = best_price(world, found)
            row = by_tables(market, demand, list(world))
            self.assertIs(type(row), tuple)
            self.same(len(row), market.many)
            for part in range(market.many):
                if part in market.gone:
                    self.same(row[part], 0)
                    continue
                wanted = difference(best_price(world, lost_stocks(found, [part])), base)
                self.same((losing.loss_of(part), row[part], losing([part])), (wanted, wanted, wanted))
                for stock in best_stocks(world, found):
                    more = difference(table.more(market.runs[part]), world[part]) if part in stock else 0
                    self.same(more, wanted)
                state = state_of(market, demand, part)
                told[state] = told.get(state, 0) + 1
                if state == "firm":
                    self.assertIsNone(wanted)
                elif state == "dead":
                    self.same(wanted, 0)
                else:
                    self.same(wanted, max(0, critical_price(market, demand, world, part) - world[part]))
        self.assertTrue(len(told) == 3 and min(told.values()) > 20)

    def test_in_words(self):
        market = Join(2, [(0, 1), (1, 2), (0, 2), (0, 2)], gone=[3])
        losing = Losing(market, 1, (1, 1, 4, 0))
        self.same([losing([]), losing([0]), losing([1, 0]), losing([2]), losing([0, 2])], [0, 2, 2, 0, None])
        self.same(by_tables(market, 1, (1, 1, 4, 0)), (2, 2, 0, 0))
        self.same(by_tables(market, 2, (1, 1, 4, 0)), (None, None, None, 0))
        for kind in (Join, Lap):
            self.same(by_tables(kind(1, []), 0, []), ())
            self.same(Losing(kind(1, []), 0, [])([]), 0)
        self.same(by_tables(Lap(1, [(0, 1), (0, 1)]), -1, [3, 4]), (0, 0))

    def test_great_markets(self):
        for seed in range(6):
            market = great_market(seed)
            _, demand = random_stock(seed, market)
            world = random_world(seed, market, 10 ** 30)
            losing = Losing(market, demand, world)
            row = by_tables(market, demand, world)
            for part in market.there()[::7]:
                wanted = difference(price_of(market.lose([part]), demand, world), losing.price)
                self.same((losing.loss_of(part), row[part]), (wanted, wanted))
            chance = random.Random(seed)
            lost = chance.sample(market.there(), 5)
            self.same(losing(lost), difference(price_of(market.lose(lost), demand, world), losing.price))


class Wrong(Case):
    """Promises 1 and 2."""

    def markets(self):
        return [kind(2, [(0, 2), (0, 1), (1, 2), (0, 2), (0, 1)], gone=[3, 4]) for kind in (Join, Lap)]

    def test_orders(self):
        for market in self.markets():
            for function in (Losing, by_tables):
                self.order(function, (market, 1, (1, 2, 3, 4, 5)), (
                    (1, [1, None], BadDemand, {"place": 1}), (2, [1, 2, 3, 4, -5], BadWorld, {"place": 4}),
                    (1, 9, NoStock, {}),
                ))
                for wrong in NO_ROWS:
                    self.fails(BadWorld, {"place": -1}, function, market, 9, wrong)

    def test_wrong_losses(self):
        for market in self.markets():
            losing = Losing(market, 1, (1, 2, 3, 4, 5))
            for wrong in NO_ROWS:
                self.fails(BadSet, {"place": -1}, losing, wrong)
            for wrong in NO_INTEGERS + (-1, 5, 0):
                self.fails(BadSet, {"place": 2}, losing, [0, 4, wrong])
            self.fails(IsGone, {"part": 3}, losing, [4, 0, 3])
            self.fails(IsGone, {"part": 4}, losing, (4,))
            for wrong in NO_INTEGERS + (-1, 5):
                self.fails(BadPart, {"part": wrong}, losing.loss_of, wrong)
            self.fails(IsGone, {"part": 3}, losing.loss_of, 3)

    def test_arguments_stay(self):
        for market in self.markets():
            demand, world, lost = [1, 1], [3, 1, 1, 0, 0], [2, 0]
            losing = Losing(market, demand, world)
            first = (losing(lost), losing.loss_of(1), by_tables(market, demand, world))
            self.assertEqual((demand, world, lost), ([1, 1], [3, 1, 1, 0, 0], [2, 0]))
            demand[0] = world[0] = 9
            self.same((losing.demand, losing.world), ((1, 1), (3, 1, 1, 0, 0)))
            self.same(first, (losing((0, 2)), losing.loss_of(1), by_tables(market, 1, (3, 1, 1, 0, 0))))

    def test_defined_in_the_class(self):
        for name in ("__call__", "loss_of"):
            self.assertIn(name, vars(Losing))


if __name__ == "__main__":
    unittest.main()
