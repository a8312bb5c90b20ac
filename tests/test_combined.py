import random
import unittest

from keptparts.cheapest import cheapest, cheapest_stocks, is_cheapest, price_of
from keptparts.covers import begins
from keptparts.cuts import strength
from keptparts.differences import split_rings, split_run
from keptparts.halving import remade
from keptparts.heights import Heights, fits, fitting
from keptparts.markets import Join, Lap
from keptparts.rings import is_walk
from keptparts.tables import Table
from support import (
    Case, all_runs, all_sets, behind, best_price, best_stocks, great_market, is_a_stock, more_by, price,
    random_cases, random_demand, random_market, random_stock, random_world, row_of, stocks,
)


def plus_price(heights, market, world):
    return tuple(number + heights[end] - heights[begin] for number, (begin, end) in zip(world, market.runs))


class Shifted(Case):
    """Promise 42: shifted prices."""

    def test_small_markets(self):
        moved = 0
        for seed, market, demand, found in random_cases(120, kind=Join):
            chance = random.Random(seed)
            world = random_world(seed, market)
            shift = Heights([chance.randint(-3, 3) for _ in range(market.size + 1)])
            risen = plus_price(shift, market, world)
            if min(risen, default=0) < 0:
                continue
            moved += risen != world
            row = row_of(market, demand)
            more = sum(row[j] * (shift[j + 1] - shift[j]) for j in range(market.size))
            before, after = Table(market, demand, world), Table(market, demand, risen)
            self.same(after.price, before.price + more)
            self.same(cheapest_stocks(market, demand, risen), cheapest_stocks(market, demand, world))
            heights = fitting(market, demand, world, before.stock)
            self.same(fits(market, demand, risen, before.stock, heights + shift), True)
            heights = fitting(market, demand, risen, before.stock)
            self.same(fits(market, demand, world, before.stock, heights + -shift), True)
            for run in all_runs(market.size):
                for one, two in ((before.more(run), after.more(run)), (before.less(run), after.less(run))):
                    self.same(two, None if one is None else one + shift.worth(run))
        self.assertGreater(moved, 30)

    def test_great_markets(self):
        for seed in range(0, 8, 2):
            market = great_market(seed, Join)
            _, demand = random_stock(seed, market)
            world = random_world(seed, market, 10 ** 30)
            shift = Heights([10 ** 29 * point for point in range(31)])
            risen = plus_price(shift, market, world)
            before, after = Table(market, demand, world), Table(market, demand, risen)
            self.same(after.price, before.price + sum(demand) * 10 ** 29)
            self.same(is_cheapest(market, demand, risen, before.stock), True)
            for run in ((0, 30), (3, 4), (10, 20)):
                one, two = before.more(run), after.more(run)
                self.same(two, None if one is None else one + shift.worth(run))


class TwoDemands(Case):
    """Promise 43: prices of two demands."""

    def pairs(self, many):
        told = 0
        seed = 0
        while told < many:
            seed += 1
            market = random_market(seed, None, 3, 5)
            _, demand = random_stock(seed, market)
            _, other = random_stock(seed + 700, market)
            if stocks(market, demand) and stocks(market, other):
                told += 1
                yield seed, market, demand, other, random_world(seed, market)

    def test_one_walk(self):
        """Part (a)."""
        checked = 0
        for _, market, demand, other, world in self.pairs(120):
            total = price_of(market, demand, world) + price_of(market, other, world)
            one, two = begins(market, demand), begins(market, other)
            for c in range(market.size + 1):
                if two[c] <= one[c]:
                    continue
                good = []
                for d in range(market.size + 1):
                    if two[d] < one[d]:
                        run, by = ((c, d), 1) if c < d else ((d, c), -1)
                        prices = [price_of(market, more_by(market, demand, run, by), world),
                                  price_of(market, more_by(market, other, run, -by), world)]
                        good.append(None not in prices and sum(prices) <= total)
                checked += 1
                self.assertTrue(any(good))
        self.assertGreater(checked, 100)

    def test_moves(self):
        """Part (b), for two demands that differ by a run, and for one demand."""
        checked = 0
        for seed, market, demand, _, world in self.pairs(120):
            run = random.Random(seed).choice(all_runs(market.size))
            other = more_by(market, demand, run, 1)
            one, two = cheapest(market, demand, world), cheapest(market, other, world)
            if two is None:
                continue
            walk, moves = split_run(market, demand, run, one, two)
            self.same(is_walk(market, demand, one, run, *walk), True)
            total = price(world, one) + price(world, two)
            for chosen in all_sets(range(len(moves) + 1)):
                picked = [([walk] + moves)[k] for k in chosen]
                first, second = one, two
                for move in picked:
                    first, second = behind(first, move), behind(second, move[::-1])
                demands = (other, demand) if 0 in chosen else (demand, other)
                checked += 1
                self.assertTrue(is_a_stock(market, demands[0], first) and is_a_stock(market, demands[1], second))
                self.assertEqual(price(world, first) + price(world, second), total)
        self.assertGreater(checked, 100)

    def test_bends(self):
        """Part (c)."""
        equal = other = 0
        for seed, market, demand, found in random_cases(100):
            world = random_world(seed, market, 3)
            middle = best_price(world, found)
            table = Table(market, demand, world)
            for run in all_runs(market.size):
                up, down = more_by(market, demand, run, 1), more_by(market, demand, run, -1)
                one, two = cheapest(market, up, world), cheapest(market, down, world)
                if one is None or two is None:
                    continue
                self.assertGreaterEqual(price(world, one) + price(world, two), 2 * middle)
                halves = remade(market, one, two)
                best = [is_a_stock(market, demand, half) and price(world, half) == middle for half in halves]
                self.assertEqual(all(best), table.more(run) == table.less(run))
                self.assertTrue(all(is_a_stock(market, demand, half) for half in halves))
                equal += all(best)
                other += not all(best)
        self.assertTrue(equal > 20 and other > 50)

    def test_sums(self):
        """Part (d)."""
        for seed in range(60):
            market = random_market(seed, None, 3, 6)
            world = random_world(seed, market)
            prices = [price_of(market, k, world) for k in range(8)]
            for a in range(4):
                for b in range(4):
                    if prices[a + b] is not None:
                        self.assertGreaterEqual(prices[a + b], prices[a] + prices[b])
            demand = row_of(market, random_demand(seed, market))
            single = price_of(market, demand, world)
            for times in (1, 2, 3):
                whole = price_of(market, [times * number for number in demand], world)
                if whole is not None:
                    self.assertGreaterEqual(whole, times * single)


class Shapes(Case):
    """Promise 44: prices of shapes."""

    def test_end_to_end(self):
        for seed in range(60):
            kind = (Join, Lap)[seed % 2]
            one, two = random_market(seed, kind, 3, 4), random_market(seed + 900, kind, 2, 4)
            worlds = random_world(seed, one), random_world(seed + 1, two)
            demands = row_of(one, random_demand(seed, one)), row_of(two, random_demand(seed + 3, two))
            prices = price_of(one, demands[0], worlds[0]), price_of(two, demands[1], worlds[1])
            wanted = None if None in prices else sum(prices)
            whole, demand, world = one + two, demands[0] + demands[1], worlds[0] + worlds[1]
            self.same(price_of(whole, demand, world), wanted)
            if wanted is not None:
                best = [
                    left + tuple(part + one.many for part in right)
                    for left in best_stocks(worlds[0], stocks(one, demands[0]))
                    for right in best_stocks(worlds[1], stocks(two, demands[1]))
                ]
                self.same(cheapest_stocks(whole, demand, world), sorted(best))
                table, left = Table(whole, demand, world), Table(one, demands[0], worlds[0])
                for run in all_runs(one.size):
                    self.same((table.more(run), table.less(run)), (left.more(run), left.less(run)))

    def test_beside(self):
        for seed in range(60):
            one, two = random_market(seed, Join, 3, 5), random_market(seed + 900, Join, 3, 4)
            worlds = random_world(seed, one), random_world(seed + 1, two)
            for k in range(4):
                sums = []
                for i in range(k + 1):
                    prices = price_of(one, i, worlds[0]), price_of(two, k - i, worlds[1])
                    if None not in prices:
                        sums.append(sum(prices))
                self.same(price_of(one | two, k, worlds[0] + worlds[1]), min(sums, default=None))

    def test_turned(self):
        for seed, market, demand, _ in random_cases(60):
            world = random_world(seed, market)
            table, turned = Table(market, demand, world), Table(~market, row_of(market, demand)[::-1], world)
            self.same(turned.price, table.price)
            for c, d in all_runs(market.size):
                run = (market.size - d, market.size - c)
                self.same((turned.more(run), turned.less(run)), (table.more((c, d)), table.less((c, d))))

    def test_many_times(self):
        checked = 0
        for seed in range(60):
            market = random_market(seed, None, 3, 4)
            world = random_world(seed, market)
            for times in (1, 2, 3):
                whole = market * times
                self.same(strength(whole), times * strength(market))
                for size in range(times * strength(market) + 2):
                    q, s = divmod(size, times)
                    prices = [(times - s, price_of(market, q, world))]
                    if s:
                        prices.append((s, price_of(market, q + 1, world)))
                    wanted = None if None in [row[1] for row in prices] else sum(a * b for a, b in prices)
                    self.same(price_of(whole, size, world * times), wanted)
                    checked += wanted is not None
        self.assertGreater(checked, 200)


class BothKinds(Case):
    """Promise 45: markets of the two kinds with the same runs."""

    def test_small_markets(self):
        equal = dearer = 0
        for seed, market, demand, found in random_cases(300, kind=Join, most_parts=7, gone=False):
            world = random_world(seed, market)
            lap = Lap(market.size, market.runs, gone=market.gone)
            told = price_of(lap, demand, world)
            row = row_of(market, demand)
            sets = all_sets(market.there())
            prices = [price(world, chosen) for chosen in sets if is_a_stock(lap, row, chosen)]
            self.same(told, min(prices))
            table = Table(market, demand, world)
            rises = [table.more((j, j + 1)) for j in range(market.size)]
            rising = self.some_rising(table, market)
            self.assertEqual(told == table.price, rising)
            if None not in rises and min(rises) < 0:
                self.assertFalse(rising)
            equal += rising
            dearer += not rising
        self.assertTrue(equal > 40 and dearer > 2, (equal, dearer))

    def some_rising(self, table, market):
        """Whether levels exist that keep within the table and rise: no closed row of bounds is below 0."""
        points = range(market.size + 1)
        bound = {(c, c): 0 for c in points}
        for c, d in all_runs(market.size):
            more, less = table.more((c, d)), table.less((c, d))
            bound[c, d] = more if more is not None else 10 ** 6
            bound[d, c] = min(0, -less) if less is not None else 0
        for middle in points:
            for c in points:
                for d in points:
                    bound[c, d] = min(bound[c, d], bound[c, middle] + bound[middle, d])
        return all(bound[c, c] >= 0 for c in points)

    def test_one_ring_and_one_market(self):
        runs = [(0, 2), (1, 3), (0, 3), (1, 2)]
        world = (1, 1, 9, 0)
        self.same(price_of(Join(3, runs), 1, world), 9)
        self.same(price_of(Lap(3, runs), 1, world), 2)
        self.same(split_rings(Lap(3, runs), 1, (2,), (0, 1)), [((2,), (0, 1))])


if __name__ == "__main__":
    unittest.main()
