import random
import unittest

from keptparts.budgets import cost_steps
from keptparts.cheapest import cheapest, price_of
from keptparts.critical import critical_price
from keptparts.cuts import strength
from keptparts.errors import BadNumber, BadPart, BadWorld, IsGone, NotJoin, TooMany
from keptparts.growing import going_back, grows
from keptparts.leaving import births, brought_in, leaving_world, left_behind
from keptparts.lengths import lengths_world
from keptparts.losing import by_tables
from keptparts.markets import Join, Lap
from keptparts.tables import Table
from support import (
    NO_INTEGERS, NO_ROWS, Case, best_price, best_stocks, far, great_ways, growing_moves, loose_parts, random_market,
    random_world, risen, stocks_by_size, threshold,
)

FIVE = [(0, 1), (0, 2), (1, 2), (1, 3), (2, 3)]


def join_cases():
    """Small join markets with a strength of at least 1, some of which do not grow."""
    for seed in range(90):
        chance = random.Random(seed)
        if seed % 2:
            runs = FIVE + [chance.choice(FIVE + [(0, 3)]) for _ in range(chance.randint(0, 2))]
            chance.shuffle(runs)
            market = Join(3, runs, gone=[chance.randrange(len(runs))] if seed % 5 == 0 else [])
        else:
            market = random_market(seed, Join, most_parts=7)
        by_size = stocks_by_size(market)
        for number in range(len(by_size) - 1):
            yield seed, market, by_size, number


def step(world, by_size, number):
    return best_price(world, by_size[number + 1]) - best_price(world, by_size[number])


def critical(world, market, by_size, number, part):
    """The critical price; that of a firm part is above, that of a dead part below all integers."""
    if part in loose_parts(market, by_size[number]):
        return threshold(world, by_size[number], part)
    return far(None) if part in by_size[number][0] else -far(None)


class PartByPart(Case):
    """Promise 97: the parts that are left behind and brought in."""

    def test_small_markets(self):
        left = 0
        for seed, market, by_size, number in join_cases():
            moves = [told for stock in by_size[number] for told in growing_moves(market, number, stock)]
            outs = tuple(sorted({part for told in moves for part in told[0]}))
            ins = tuple(sorted({part for told in moves for part in told[1]}))
            self.same(left_behind(market, number), outs)
            self.same(brought_in(market, number), ins)
            left += len(outs)
            if number == 0:
                self.same(outs, ())
            for part in outs:
                # Promise 98: such a part touches neither end of the row.
                self.assertTrue(0 < market.runs[part][0] and market.runs[part][1] < market.size)
        self.assertGreater(left, 20)

    def test_worlds(self):
        """In random worlds nothing falls for parts that are not outs, and nothing rises for those not ins."""
        for seed, market, by_size, number in join_cases():
            outs, ins = left_behind(market, number), brought_in(market, number)
            for extra in range(3):
                world = random_world(seed * 7 + extra, market)
                small, large = (best_stocks(world, by_size[size]) for size in (number, number + 1))
                for part in market.there():
                    low, high = (critical(world, market, by_size, size, part) for size in (number, number + 1))
                    by = step(risen(world, part), by_size, number) - step(world, by_size, number)
                    if part not in outs:
                        self.assertTrue(high >= low and by >= 0)
                        self.assertFalse(all(part in stock for stock in small)
                                         and not any(part in stock for stock in large))
                    if part not in ins:
                        self.assertTrue(high <= low and by <= 0)

    def test_worlds_that_show_it(self):
        """For each out and each in there is a world in which the critical price falls, or rises."""
        for seed, market, by_size, number in join_cases():
            for stock in by_size[number]:
                for outs, ins in growing_moves(market, number, stock):
                    world = lengths_world(market, stock, outs, ins)
                    for part in outs:
                        self.assertLess(critical(world, market, by_size, number + 1, part),
                                        critical(world, market, by_size, number, part))
                        self.assertEqual(step(risen(world, part), by_size, number), step(world, by_size, number) - 1)
                    for part in ins:
                        self.assertGreater(critical(world, market, by_size, number + 1, part),
                                           critical(world, market, by_size, number, part))
                        self.assertEqual(step(risen(world, part), by_size, number), step(world, by_size, number) + 1)


class LeavingWorlds(Case):
    """Promise 94: one world."""

    def test_small_markets(self):
        told = {True: 0, False: 0}
        for seed, market, by_size, number in join_cases():
            outs = left_behind(market, number)
            for part in market.there():
                world = leaving_world(market, number, part)
                self.same(world is not None, part in outs)
                told[part in outs] += number > 0
                if world is None:
                    continue
                self.assertTrue(len(world) == market.many and all(world[gone] == 0 for gone in market.gone))
                small, large = (best_stocks(world, by_size[size]) for size in (number, number + 1))
                # One cheapest stock of each of the two sizes.
                self.assertEqual((len(small), len(large)), (1, 1))
                self.assertTrue(part in small[0] and part not in large[0])
                self.same((cheapest(market, number, world), cheapest(market, number + 1, world)),
                          (small[0], large[0]))
                self.check_part(market, by_size, number, part, world)
                made = lengths_world(market, small[0], tuple(sorted(set(small[0]) - set(large[0]))),
                                     tuple(sorted(set(large[0]) - set(small[0]))))
                self.same(world, made)
        self.assertTrue(min(told.values()) > 20, told)

    def check_part(self, market, by_size, number, part, world):
        self.assertEqual(step(risen(world, part), by_size, number), step(world, by_size, number) - 1)
        self.assertGreater(critical(world, market, by_size, number, part), world[part])
        self.assertLess(critical(world, market, by_size, number + 1, part), world[part])
        losses = [by_tables(market, size, world)[part] for size in (number, number + 1)]
        self.assertGreaterEqual(far(losses[0]), 1)
        self.same(losses[1], 0)

    def test_five(self):
        market = Join(3, FIVE)
        self.same(leaving_world(market, 1, 2), (0, 2, 1, 2, 0))
        self.same([leaving_world(market, 1, part) for part in (0, 1, 3, 4)], [None] * 4)
        self.same([leaving_world(market, 0, part) for part in range(5)], [None] * 5)
        self.same((left_behind(market, 0), brought_in(market, 0)), ((), (0, 1, 2, 3, 4)))
        self.same((left_behind(market, 1), brought_in(market, 1)), ((2,), (0, 1, 3, 4)))
        self.same(critical_price(market, 1, (0, 2, 1, 2, 0), 2), 2)

    def test_ten_parts(self):
        market = Join(3, FIVE * 2, gone=[0])
        larger = Join(3, FIVE * 3, gone=[0, 1, 2, 3])
        for number in (0, 1):
            self.same(len(left_behind(market, number)), 2 * number)
            for function in (left_behind, brought_in):
                self.fails(TooMany, {"number": 11}, function, larger, number)
            self.fails(TooMany, {"number": 11}, leaving_world, larger, number, 7)


class Births(Case):
    """Promise 99: births."""

    def test_small_markets(self):
        later = none = 0
        for seed in range(200):
            market = random_market(seed, Join, most_parts=8)
            world = random_world(seed, market)
            by_size = [best_stocks(world, found) for found in stocks_by_size(market)]
            wanted = []
            for part in range(market.many):
                sizes = [size for size, found in enumerate(by_size) if any(part in stock for stock in found)]
                wanted.append(min(sizes, default=None))
                if grows(market) and sizes:
                    self.same(sizes, list(range(sizes[0], len(by_size))))
            self.same(births(market, list(world)), tuple(wanted))
            later += sum(birth is not None and birth > 1 for birth in wanted)
            none += wanted.count(None)
        self.assertTrue(later > 40 and none > 40, (later, none))

    def test_markets_that_grow(self):
        """A row of cheapest stocks, each within the next one; losses never fall from size to size."""
        checked = 0
        for seed, market, by_size, number in join_cases():
            if number or not grows(market):
                continue
            world = random_world(seed, market)
            rows = [(stock,) for stock in best_stocks(world, by_size[0])]
            for found in by_size[1:]:
                rows = [row + (stock,) for row in rows for stock in best_stocks(world, found)
                        if set(row[-1]) <= set(stock)][:50]
            self.assertTrue(rows)
            losses = [by_tables(market, size, world) for size in range(len(by_size))]
            for part in market.there():
                row = [far(loss[part]) for loss in losses]
                self.assertEqual(row, sorted(row))
            steps = cost_steps(market, world)
            for size in range(1, len(steps)):
                checked += 1
                self.assertTrue(all(losses[1][part] <= steps[size] - steps[0] for part in market.there()))
        self.assertGreater(checked, 10)

    def test_in_words(self):
        self.same(births(Join(3, FIVE), (1, 10, 1, 10, 1)), (1, 2, 1, 2, 1))
        self.same(births(Join(3, FIVE, gone=[2]), (1, 10, 1, 10, 1)), (1, 1, None, 1, 1))
        self.same(births(Join(3, FIVE, gone=[2]), (1, 10, 1, 9, 1)), (1, 2, None, 1, 2))
        self.same(births(Join(2, [(0, 1), (0, 2), (0, 2)]), (0, 3, 3)), (None, 1, 1))
        self.same(births(Join(2, []), ()), ())

    def test_great_markets(self):
        for seed in range(2):
            market = great_ways(seed, 5, kind=Join)
            world = random_world(seed, market, 10 ** 30)
            told = births(market, world)
            tables = [Table(market, number, world) for number in range(strength(market) + 1)]
            for part in range(market.many):
                sizes = [size for size, table in enumerate(tables) if part not in market.gone and table.enters(part)]
                self.same(told[part], min(sizes, default=None))
        whole = Join(30, [(0, 30)] * 60, gone=[3])
        self.same(births(whole, list(range(60))), (1, 2, 3, None) + tuple(range(4, 60)))

    def test_least_loss_beside_prices(self):
        market = Join(3, FIVE)
        world = leaving_world(market, 1, 2)
        self.same(births(market, world), (1, 2, 1, 2, 1))
        self.same(price_of(market, 2, world) - price_of(market, 1, world), 3)
        self.same(going_back(market, 1)[0], cheapest(market, 1, world))


class Wrong(Case):
    """Promises 1 and 2."""

    def test_values(self):
        market = Join(3, FIVE)
        for value in NO_INTEGERS + (-1, 2, 10 ** 30):
            for function in (left_behind, brought_in):
                self.fails(BadNumber, {"name": "number"}, function, market, value)
            self.fails(BadNumber, {"name": "number"}, leaving_world, market, value, 0)
        for value in NO_INTEGERS + (-1, 5):
            self.fails(BadPart, {"part": value}, leaving_world, market, 1, value)
        for world in NO_ROWS + ((1,) * 4, [1] * 6):
            self.fails(BadWorld, {"place": -1}, births, market, world)
        for value in NO_INTEGERS + (-1,):
            self.fails(BadWorld, {"place": 4}, births, market, [0, 1, 2, 3, value])

    def test_orders(self):
        market = Join(3, FIVE + [(0, 1)] * 7, gone=[5])
        lap = Lap(3, market.runs, gone=[5])
        less = market.lose([6])
        for function in (left_behind, brought_in):
            self.order(function, (less, 1), ((0, lap, NotJoin, {}), (1, 2, BadNumber, {"name": "number"})))
            self.order(function, (less, 1), (
                (1, None, BadNumber, {"name": "number"}), (0, market, TooMany, {"number": 11}),
            ))
        for part, error in ((5, IsGone), (12, BadPart), (None, BadPart)):
            self.order(leaving_world, (less, 1, 2), (
                (0, lap, NotJoin, {}), (1, 2, BadNumber, {"name": "number"}), (2, part, error, {"part": part}),
            ))
            self.order(leaving_world, (less, 1, 2), (
                (2, part, error, {"part": part}), (0, market, TooMany, {"number": 11}),
            ))
        self.order(births, (market, [1] * 12), ((0, lap, NotJoin, {}), (1, [1] * 11, BadWorld, {"place": -1})))

    def test_arguments_stay(self):
        market, world = Join(3, FIVE), [1, 10, 1, 10, 1]
        first = (births(market, world), left_behind(market, 1), leaving_world(market, 1, 2))
        self.assertEqual(world, [1, 10, 1, 10, 1])
        self.same(first, (births(market, tuple(world)), left_behind(market, 1), leaving_world(market, 1, 2)))


if __name__ == "__main__":
    unittest.main()
