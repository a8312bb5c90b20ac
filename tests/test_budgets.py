import itertools
import random
import unittest

from keptparts.budgets import best_sizes, cost_steps, greatest_size, sized_stock, sizes_for
from keptparts.cheapest import is_cheapest, price_of
from keptparts.cuts import strength
from keptparts.errors import BadNumber, BadWorld, OtherSize
from keptparts.halving import remade
from keptparts.heights import Heights, fits
from keptparts.markets import Join, Lap
from keptparts.notes import Notes
from keptparts.safety import is_safe
from keptparts.tables import Table
from support import (
    NO_INTEGERS, NO_ROWS, Case, agreeing, best_price, best_stocks, great_notes, great_ways, is_a_stock, price,
    random_market, random_notes, random_world, stocks_by_size,
)


def sized_cases(many, **more):
    """Random markets of both kinds with a world and all their stocks by size."""
    for seed in range(many):
        market = random_market(seed, **more)
        yield seed, market, random_world(seed, market), stocks_by_size(market)


class CostSteps(Case):
    """Promise 91: the costs of the sizes."""

    def test_small_markets(self):
        long = 0
        for seed, market, world, by_size in sized_cases(200, most_places=3, most_parts=8):
            costs = [best_price(world, found) for found in by_size]
            steps = cost_steps(market, list(world))
            self.same(steps, [after - before for before, after in zip(costs, costs[1:])])
            self.same(steps, sorted(steps))
            self.same(len(steps), strength(market))
            long += len(steps) > 1 and steps[0] < steps[-1]
            for number, step in enumerate(steps):
                self.same(Table(market, number, world).more((0, market.size)), step)
        self.assertGreater(long, 40)

    def test_many_times(self):
        for seed, market, world, by_size in sized_cases(60, most_parts=5):
            for times in (1, 2, 3):
                steps = cost_steps(market, world)
                self.same(cost_steps(market * times, world * times), [step for step in steps for _ in range(times)])

    def test_remade_sets(self):
        """A cheapest larger and a cheapest smaller stock make two stocks of the size between."""
        for seed, market, world, by_size in sized_cases(80, most_places=3, most_parts=7):
            for number in range(1, len(by_size) - 1):
                large, small = best_stocks(world, by_size[number + 1])[0], best_stocks(world, by_size[number - 1])[0]
                for stock in remade(market, large, small):
                    self.assertTrue(is_a_stock(market, number, stock))

    def test_in_words(self):
        market = Join(3, [(0, 1), (0, 2), (1, 2), (1, 3), (2, 3)])
        self.same(cost_steps(market, [1, 10, 1, 10, 1]), [3, 19])
        self.same(cost_steps(Lap(3, market.runs), [1, 10, 1, 10, 1]), [3, 19])
        self.same(cost_steps(market - [0], [1, 10, 1, 10, 1]), [11])
        for empty in (Join(2, []), Join(2, [(0, 1)]), Lap(2, [(0, 2)], gone=[0])):
            self.same(cost_steps(empty, [7] * empty.many), [])
        self.same(cost_steps(Lap(2, [(0, 2), (0, 1), (0, 1), (1, 2)]), (5, 1, 2, 3)), [4, 5])

    def test_great_markets(self):
        for seed in range(6):
            market = great_ways(seed, 7)
            world = random_world(seed, market, 10 ** 30)
            steps = cost_steps(market, world)
            self.assertGreaterEqual(len(steps), 6)
            self.same(len(steps), strength(market))
            costs = [price_of(market, number, world) for number in range(len(steps) + 1)]
            self.same(steps, [after - before for before, after in zip(costs, costs[1:])])
        whole = Join(30, [(0, 30)] * 60)
        self.same(cost_steps(whole, list(range(60))), list(range(60)))


class Budgets(Case):
    """Promise 100: what a budget buys."""

    def test_small_markets(self):
        told = {}
        for seed, market, world, by_size in sized_cases(150, most_places=3, most_parts=8):
            costs = [best_price(world, found) for found in by_size]
            for budget in sorted(set(costs + [cost + 1 for cost in costs] + [max(0, cost - 1) for cost in costs])):
                wanted = max(number for number, cost in enumerate(costs) if cost <= budget)
                self.same(greatest_size(market, list(world), budget), wanted)
                self.assertIn(sized_stock(market, list(world), budget), best_stocks(world, by_size[wanted]))
                told[wanted] = told.get(wanted, 0) + 1
        self.assertTrue(min(told[number] for number in (0, 1, 2, 3)) > 10, told)

    def test_notes(self):
        wide = 0
        for seed, market, _, by_size in sized_cases(120, most_places=3, most_parts=7):
            notes = random_notes(seed, market, 30)
            worlds = agreeing(notes)
            for budget in (0, 2, 5, 9, 14):
                most = [max(number for number, found in enumerate(by_size) if best_price(world, found) <= budget)
                        for world in worlds]
                told = sizes_for(market, notes, budget)
                self.same(told, (min(most), max(most)))
                wide += told[0] < told[1]
                # The stock for the high ends costs no more than the budget anywhere, and no larger stock does so.
                stock = sized_stock(market, notes.highs, budget)
                self.assertIn(stock, by_size[told[0]])
                self.assertTrue(all(price(world, stock) <= budget for world in worlds))
                for larger in itertools.chain(*by_size[told[0] + 1:]):
                    self.assertTrue(any(price(world, larger) > budget for world in worlds))
                cheap = best_stocks(notes.lows, by_size[told[1]])[0]
                self.assertTrue(any(price(world, cheap) <= budget for world in worlds))
        self.assertGreater(wide, 30)

    def test_edges(self):
        market = Join(2, [(0, 1), (1, 2), (0, 2)])
        self.same([greatest_size(market, (1, 1, 3), budget) for budget in (0, 1, 2, 4, 5, 10 ** 30)],
                  [0, 0, 1, 1, 2, 2])
        self.same(greatest_size(market, (0, 0, 0), 0), 2)
        self.same(sized_stock(market, (0, 0, 0), 0), (0, 1, 2))
        self.same(sized_stock(market, (1, 1, 3), 1), ())
        self.same(greatest_size(Join(1, []), (), 0), 0)
        self.same(sized_stock(Lap(1, []), [], 3), ())
        self.same(sizes_for(market, Notes([(1, 2), (1, 2), (0, 9)]), 4), (1, 2))

    def test_great_markets(self):
        for seed in range(4):
            market = great_ways(seed, 6)
            notes = great_notes(seed, market)
            costs = [price_of(market, number, notes.highs) for number in range(strength(market) + 1)]
            for budget in (costs[2] - 1, costs[2], 10 ** 30):
                number = max(size for size, cost in enumerate(costs) if cost <= budget)
                self.same(greatest_size(market, notes.highs, budget), number)
                stock = sized_stock(market, notes.highs, budget)
                self.assertTrue(is_cheapest(market, number, notes.highs, stock))
                self.same(sizes_for(market, notes, budget),
                          (number, greatest_size(market, notes.lows, budget)))


class Rewards(Case):
    """Promise 101: a reward for each cover."""

    def test_small_markets(self):
        told = {}
        for seed, market, world, by_size in sized_cases(150, most_places=3, most_parts=8):
            costs = [best_price(world, found) for found in by_size]
            steps = [after - before for before, after in zip(costs, costs[1:])]
            for reward in sorted(set(steps + [0, 1, 3] + [step + 1 for step in steps])):
                balances = [cost - number * reward for number, cost in enumerate(costs)]
                wanted = [number for number, one in enumerate(balances) if one == min(balances)]
                self.same(best_sizes(market, list(world), reward), wanted)
                self.same(wanted, [number for number in range(len(costs))
                                   if (number == 0 or steps[number - 1] <= reward)
                                   and (number == len(steps) or reward <= steps[number])])
                self.same(wanted, list(range(wanted[0], wanted[-1] + 1)))
                told[len(wanted)] = told.get(len(wanted), 0) + 1
        self.assertTrue(min(told[number] for number in (1, 2, 3)) > 10, told)

    def test_heights(self):
        """For any heights C_k is at least k * t - M, with equality just where they fit."""
        equal = missed = 0
        for seed, market, world, by_size in sized_cases(120, most_places=3, most_parts=7):
            costs = [best_price(world, found) for found in by_size]
            chance = random.Random(seed)
            drawn = [[chance.randint(0, 6) for _ in range(market.size + 1)] for _ in range(6)]
            fitting = [Table(market, number, world).lowest() for number in range(1, len(by_size))]
            fitting += [Table(market, number, world).highest() for number in range(len(by_size) - 1)]
            for heights in [Heights(sorted(levels)) for levels in drawn] + [one for one in fitting if one is not None]:
                reward = heights.worth((0, market.size))
                if reward < 0 or market.KIND == "lap" and not heights.is_rising():
                    continue
                worths = heights.worths(market)
                excess = sum(max(0, worths[part] - world[part]) for part in market.there())
                touched = []
                for number, cost in enumerate(costs):
                    self.assertGreaterEqual(cost, number * reward - excess)
                    stock = best_stocks(world, by_size[number])[0]
                    fit = fits(market, number, world, stock, heights)
                    self.same(cost == number * reward - excess, fit)
                    touched += [number] * fit
                if touched:
                    self.same(touched, best_sizes(market, world, reward))
                equal += bool(touched)
                missed += not touched
        self.assertTrue(equal > 50 and missed > 50, (equal, missed))

    def test_heights_for_each_size(self):
        for seed, market, world, by_size in sized_cases(80, most_places=3, most_parts=7):
            for number in range(len(by_size)):
                table = Table(market, number, world)
                ends = [table.less((0, market.size)), table.more((0, market.size))]
                worth = next((end for end in ends[::-1] if end is not None), 0)
                heights = table.between((0, market.size), worth)
                self.assertTrue(fits(market, number, world, table.stock, heights))
                if number + 1 < len(by_size):
                    larger = best_stocks(world, by_size[number + 1])[0]
                    self.assertTrue(fits(market, number + 1, world, larger, heights))

    def test_safe_stocks(self):
        """When a safe stock is best at a reward, in every agreeing world and among all sizes."""
        told = {True: 0, False: 0}
        for seed, market, _, by_size in sized_cases(100, most_places=2, most_parts=6):
            notes = random_notes(seed, market, 12)
            worlds = agreeing(notes)
            for number, found in enumerate(by_size):
                for stock in [one for one in found if is_safe(market, number, notes, one)][:1]:
                    for reward in range(0, 9):
                        wanted = all(price(world, stock) - number * reward <= best_price(world, row) - size * reward
                                     for world in worlds for size, row in enumerate(by_size))
                        steps = [cost_steps(market, world) for world in worlds]
                        self.same(wanted, (number == 0 or max(row[number - 1] for row in steps) <= reward)
                                  and (number == len(steps[0]) or min(row[number] for row in steps) >= reward))
                        self.same(wanted, all(number in best_sizes(market, world, reward) for world in worlds))
                        told[wanted] += 1
        self.assertTrue(min(told.values()) > 50, told)

    def test_edges(self):
        self.same(best_sizes(Join(1, []), (), 9), [0])
        self.same(best_sizes(Lap(2, [(0, 2)] * 3), (0, 2, 2), 0), [0, 1])
        self.same(best_sizes(Lap(2, [(0, 2)] * 3), (0, 2, 2), 2), [1, 2, 3])
        self.same(best_sizes(Lap(2, [(0, 2)] * 3), (0, 2, 2), 10 ** 30), [3])
        self.same(best_sizes(Join(2, [(0, 2)] * 4, gone=[1]), (0, 0, 2, 5), 3), [2])


class Wrong(Case):
    """Promises 1 and 2."""

    def test_numbers(self):
        market = Join(2, [(0, 1), (1, 2)])
        for value in NO_INTEGERS + (-1,):
            for function, name in ((greatest_size, "budget"), (sized_stock, "budget"), (best_sizes, "reward")):
                self.fails(BadNumber, {"name": name}, function, market, (1, 1), value)
            self.fails(BadNumber, {"name": "budget"}, sizes_for, market, Notes.unknown(2, 1), value)

    def test_worlds(self):
        market = Join(2, [(0, 1), (1, 2)])
        for world in NO_ROWS + ((1,), [1, 2, 3]):
            self.fails(BadWorld, {"place": -1}, cost_steps, market, world)
            for function in (greatest_size, sized_stock, best_sizes):
                self.fails(BadWorld, {"place": -1}, function, market, world, 1)
        for value in NO_INTEGERS + (-1,):
            self.fails(BadWorld, {"place": 1}, cost_steps, market, [0, value])

    def test_orders(self):
        for market in (Join(2, [(0, 1), (1, 2)]), Lap(2, [(0, 1), (1, 2)])):
            for function, name in ((greatest_size, "budget"), (sized_stock, "budget"), (best_sizes, "reward")):
                self.order(function, (market, [1, 1], 1), (
                    (1, [1, -1], BadWorld, {"place": 1}), (2, -1, BadNumber, {"name": name}),
                ))
            self.order(sizes_for, (market, Notes.unknown(2, 1), 1), (
                (2, -1, BadNumber, {"name": "budget"}), (1, Notes.unknown(3, 1), OtherSize, {"size": 3}),
            ))

    def test_arguments_stay(self):
        market, world = Join(2, [(0, 1), (1, 2), (0, 2)]), [1, 2, 4]
        first = (cost_steps(market, world), sized_stock(market, world, 5), best_sizes(market, world, 3))
        self.assertEqual(world, [1, 2, 4])
        cost_steps(market, world).append(0)
        best_sizes(market, world, 3).clear()
        world[0] = 100
        world = (1, 2, 4)
        self.same(first, (cost_steps(market, world), sized_stock(market, world, 5), best_sizes(market, world, 3)))


if __name__ == "__main__":
    unittest.main()
