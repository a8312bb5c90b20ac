import random
import unittest

from keptparts.cheapest import cheapest_stocks, price_of
from keptparts.errors import BadDemand, BadNumber, BadRun, BadWorld, NoStock
from keptparts.markets import Join, Lap
from keptparts.notes import Notes
from keptparts.safety import is_safe
from keptparts.strangers import entry, price_with, price_with_two
from keptparts.tables import Table
from support import (
    NO_INTEGERS, NO_ROWS, Case, agreeing, all_runs, best_price, best_stocks, great_market, more_by, random_cases,
    random_demand, random_market, random_notes, random_stock, random_world, stocks,
)

NO_RUNS = ((0, 3), (-1, 1), (1, 1), (2, 1), (0,), (0, 1, 2), (0, True), (0, 1.0), None, 5, "01", True)


class OneStranger(Case):
    """Promise 41: one stranger."""

    def test_entry(self):
        none = 0
        for seed, market, demand, found in random_cases(80):
            world = random_world(seed, market)
            table = Table(market, demand, world)
            for run in all_runs(market.size):
                told = entry(market, demand, list(world), list(run))
                self.same(told, table.less(run))
                other = best_price(world, stocks(market, more_by(market, demand, run, -1)))
                self.same(told, None if other is None else best_price(world, found) - other)
                none += told is None
        self.assertGreater(none, 50)

    def test_who_has_the_stranger(self):
        told = {}
        for seed, market, demand, found in random_cases(60, most_parts=5):
            world = random_world(seed, market, 4)
            new = market.many
            for run in all_runs(market.size)[:4]:
                saved = entry(market, demand, world, run)
                prices = {0, 3} if saved is None else {max(0, saved - 1), max(0, saved), max(0, saved + 1)}
                for price in prices:
                    best = cheapest_stocks(market.and_run(run), demand, world + (price,))
                    some, every = any(new in stock for stock in best), all(new in stock for stock in best)
                    self.same((some, every), (saved is not None and price <= saved,
                                              saved is not None and price < saved))
                    told[some, every] = told.get((some, every), 0) + 1
        self.assertTrue(len(told) == 3 and min(told.values()) > 20, told)

    def test_price_with(self):
        none = added = 0
        for seed in range(80):
            market = random_market(seed, None, 3, 5)
            demand = random_demand(seed + 5, market)
            world = random_world(seed, market)
            chance = random.Random(seed)
            base = best_price(world, stocks(market, demand))
            for run in all_runs(market.size):
                price = chance.randint(0, 6)
                told = price_with(market, demand, list(world), list(run), price)
                whole = stocks(market.and_run(run), demand)
                self.same(told, best_price(world + (price,), whole))
                rest = best_price(world, stocks(market, more_by(market, demand, run, -1)))
                options = [base] + ([] if rest is None else [rest + price])
                self.same(told, min([option for option in options if option is not None], default=None))
                none += told is None
                added += base is None and told is not None
        self.assertTrue(none > 20 and added > 5, (none, added))

    def test_in_words(self):
        market = Lap(2, [(0, 2), (0, 1), (1, 2)], gone=[0])
        self.same([entry(market, 1, (0, 4, 5), run) for run in ((0, 2), (0, 1), (1, 2))], [9, 4, 5])
        self.same([price_with(market, 1, (0, 4, 5), (0, 2), price) for price in (0, 8, 9, 10)], [0, 8, 9, 9])
        market = Join(2, [(0, 1)])
        self.same([price_with(market, 1, [4], run, 3) for run in ((0, 2), (0, 1), (1, 2))], [3, None, 7])
        self.fails(NoStock, {}, entry, market, 1, [4], (1, 2))
        self.same(entry(market, [1, 0], [4], (1, 2)), None)

    def test_great_markets(self):
        for seed in range(6):
            market = great_market(seed)
            _, demand = random_stock(seed, market)
            world = random_world(seed, market, 10 ** 30)
            base = price_of(market, demand, world)
            for run in ((0, 30), (4, 7), (29, 30)):
                saved = entry(market, demand, world, run)
                less = price_of(market, more_by(market, demand, run, -1), world)
                self.same(saved, None if less is None else base - less)
                for price in (0, 10 ** 30):
                    told = price_with(market, demand, world, run, price)
                    self.same(told, base if less is None else min(base, less + price))
                    two = price_with_two(market, demand, world, run, price, (0, 1), 5)
                    both = Table(market.and_run(run).and_run((0, 1)), demand, world + (price, 5))
                    self.same(two, both.price)


class TwoStrangers(Case):
    """Promise 41: two strangers."""

    def test_small_markets(self):
        none = 0
        for seed in range(80):
            market = random_market(seed, None, 3, 4)
            demand = random_demand(seed + 5, market)
            world = random_world(seed, market)
            chance = random.Random(seed)
            runs = all_runs(market.size)
            for _ in range(4):
                one, two = chance.choice(runs), chance.choice(runs)
                t, u = chance.randint(0, 6), chance.randint(0, 6)
                told = price_with_two(market, demand, list(world), list(one), t, list(two), u)
                whole = market.and_run(one).and_run(two)
                self.same(told, best_price(world + (t, u), stocks(whole, demand)))
                less = more_by(market, demand, one, -1)
                options = [
                    (best_price(world, stocks(market, demand)), 0),
                    (best_price(world, stocks(market, less)), t),
                    (best_price(world, stocks(market, more_by(market, demand, two, -1))), u),
                    (best_price(world, stocks(market, more_by(market, less, two, -1))), t + u),
                ]
                wanted = min([base + more for base, more in options if base is not None], default=None)
                self.same(told, wanted)
                none += told is None
        self.assertGreater(none, 20)

    def test_the_same_run_twice(self):
        for kind in (Join, Lap):
            self.same(price_with_two(kind(1, []), 2, [], (0, 1), 3, (0, 1), 4), 7)
            self.same(price_with_two(kind(1, []), 1, [], (0, 1), 3, (0, 1), 2), 2)
            self.same(price_with_two(kind(1, []), 3, [], (0, 1), 3, (0, 1), 2), None)


class WithStretches(Case):
    """Promise 60: a stranger with a stretch beside a safe stock."""

    def test_small_markets(self):
        told = {}
        for seed, market, demand, found in random_cases(60, most_parts=4):
            notes = random_notes(seed, market, 12)
            safe = [stock for stock in found if is_safe(market, demand, notes, stock)]
            for stock in safe[:1]:
                table = Table(market, demand, notes.high_on(stock))
                for run in all_runs(market.size)[:4]:
                    less, more = table.less(run), table.more(run)
                    whole = market.and_run(run)
                    ends = [end for end in (less, more) if end is not None]
                    for low in {max(0, end + by) for end in ends + [2] for by in (-1, 0, 1)}:
                        larger = notes.and_stretch(low, low + 1)
                        same = all(stock in best_stocks(world, stocks(whole, demand)) for world in agreeing(larger))
                        self.same(is_safe(whole, demand, larger, stock), same)
                        self.same(same, less is None or low >= less)
                        other = more_by(market, demand, run, 1)
                        grown = stock + (market.many,)
                        self.same(is_safe(whole, other, larger, grown), more is None or low + 1 <= more)
                        told[same] = told.get(same, 0) + 1
        self.assertTrue(min(told.values()) > 40, told)

    def test_in_words(self):
        market, notes = Join(2, [(0, 1), (1, 2)]), Notes([(1, 3), (2, 5)])
        for low, safe in ((7, False), (8, True), (9, True)):
            larger = notes.and_stretch(low, 20)
            self.same(is_safe(market.and_run((0, 2)), 1, larger, [0, 1]), safe)


class Wrong(Case):
    """Promises 1 and 2."""

    def markets(self):
        return [kind(2, [(0, 2), (0, 1), (1, 2), (0, 2)], gone=[3]) for kind in (Join, Lap)]

    def test_orders(self):
        for market in self.markets():
            demand = (1, [1, None], BadDemand, {"place": 1})
            world = (2, (1, 2, 3, True), BadWorld, {"place": 3})
            run = (3, (0, 3), BadRun, {"place": -1})
            price = (4, -1, BadNumber, {"name": "price"})
            other_run = (5, [1, 1], BadRun, {"place": -1})
            other_price = (6, None, BadNumber, {"name": "other_price"})
            right = (market, 1, (3, 1, 1, 0), (0, 1), 4, (1, 2), 5)
            self.order(entry, right[:4], (demand, world, run, (1, 4, NoStock, {})))
            self.order(price_with, right[:5], (demand, world, run, price))
            self.order(price_with_two, right, (demand, world, run, price, other_run, other_price))
            self.same(price_with(market, 9, (3, 1, 1, 0), (0, 1), 4), None)
            self.fails(BadRun, {"place": -1}, entry, market, 4, (3, 1, 1, 0), (0, 3))

    def test_wrong_values(self):
        for market in self.markets():
            world = (3, 1, 1, 0)
            for run in NO_RUNS:
                self.fails(BadRun, {"place": -1}, entry, market, 1, world, run)
                self.fails(BadRun, {"place": -1}, price_with, market, 1, world, run, 1)
                self.fails(BadRun, {"place": -1}, price_with_two, market, 1, world, run, 1, (0, 1), 1)
                self.fails(BadRun, {"place": -1}, price_with_two, market, 1, world, (0, 1), 1, run, 1)
            for number in NO_INTEGERS + (-1,):
                self.fails(BadNumber, {"name": "price"}, price_with, market, 1, world, (0, 1), number)
                self.fails(BadNumber, {"name": "price"}, price_with_two, market, 1, world, (0, 1), number, (0, 1), 1)
                self.fails(BadNumber, {"name": "other_price"}, price_with_two, market, 1, world, (0, 1), 1, (0, 1),
                           number)
            for wrong in NO_ROWS + ([1, 2, 3],):
                for call in (lambda w: entry(market, 1, w, (0, 1)), lambda w: price_with(market, 1, w, (0, 1), 1),
                             lambda w: price_with_two(market, 1, w, (0, 1), 1, (0, 1), 1)):
                    self.fails(BadWorld, {"place": -1}, call, wrong)

    def test_arguments_stay(self):
        for market in self.markets():
            demand, world, run, other = [1, 1], [3, 1, 1, 0], [0, 2], [0, 1]
            first = (entry(market, demand, world, run), price_with(market, demand, world, run, 1),
                     price_with_two(market, demand, world, run, 1, other, 0))
            self.assertEqual((demand, world, run, other), ([1, 1], [3, 1, 1, 0], [0, 2], [0, 1]))
            self.same((market.many, market.gone), (4, (3,)))
            world = (3, 1, 1, 0)
            self.same(first, (entry(market, 1, world, (0, 2)), price_with(market, 1, world, (0, 2), 1),
                              price_with_two(market, 1, world, (0, 2), 1, (0, 1), 0)))


if __name__ == "__main__":
    unittest.main()
