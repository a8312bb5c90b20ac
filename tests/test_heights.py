import itertools
import random
import unittest

from keptparts.cheapest import cheapest, cheapest_stocks, price_of
from keptparts.errors import (
    BadDemand, BadHeights, BadNumber, BadPoint, BadRun, BadSet, BadWorld, NotAStock, OtherRow,
)
from keptparts.heights import Heights, barred, fits, fitting, held, value_of
from keptparts.markets import Join, Lap
from support import (
    NO_INTEGERS, NO_ROWS, Case, covers, fit_by_words, price, random_cases, random_demand, random_market, random_world,
    row_of,
)

NO_RUNS = ((0, 3), (-1, 1), (1, 1), (2, 1), (0,), (0, 1, 2), (0, True), (0, 1.0), None, 5, "01", True)


def random_heights(chance, size, top=9):
    levels = [chance.randint(-2, top) for _ in range(size + 1)]
    return Heights(sorted(levels) if chance.random() < 0.6 else levels)


class Making(Case):
    """Promise 33: heights as objects."""

    def test_attributes(self):
        for levels in ([3, -1, 10 ** 30], (3, -1, 10 ** 30)):
            heights = Heights(levels)
            self.same((heights.levels, heights.size), ((3, -1, 10 ** 30), 2))
            self.same(len(heights), 3)
            self.same(list(heights), [3, -1, 10 ** 30])
        self.same(len(Heights([0] * 100)), 100)
        self.same(Heights([0, 0]).size, 1)

    def test_wrong_levels(self):
        for levels in NO_ROWS + ((), [], (1,), [0]):
            self.fails(BadHeights, {"place": -1}, Heights, levels)
            self.fails(BadHeights, {"place": -1}, Heights.worth_of, levels, None)
        for wrong in NO_INTEGERS:
            self.fails(BadHeights, {"place": 1}, Heights, [0, wrong, wrong])
            self.fails(BadHeights, {"place": 2}, Heights.worth_of, (0, 1, wrong), None)

    def test_level(self):
        self.same(Heights.level(1).levels, (0, 0))
        self.same(Heights.level(40).levels, (0,) * 41)
        self.assertIs(type(Heights.level(2)), Heights)
        for size in NO_INTEGERS + (0, -1):
            self.fails(BadNumber, {"name": "size"}, Heights.level, size)

    def test_worth(self):
        heights = Heights([3, 1, 10])
        self.same(heights.worth((0, 1)), -2)
        self.same(heights.worth([0, 2]), 7)
        self.same(Heights.worth_of([3, 1, 10], (1, 2)), 9)
        self.same(heights.worth_of((0, 5), [0, 1]), 5)
        for run in NO_RUNS:
            self.fails(BadRun, {"place": -1}, heights.worth, run)
            self.fails(BadRun, {"place": -1}, Heights.worth_of, [3, 1, 10], run)

    def test_worths(self):
        for kind in (Join, Lap):
            market = kind(2, [(0, 2), (0, 1), (1, 2)], gone=[1])
            self.same(Heights([3, 1, 10]).worths(market), (7, -2, 9))
            self.same(Heights([3, 1]).worths(kind(1, [])), ())
            self.fails(OtherRow, {"size": 1}, Heights([3, 1]).worths, market)
            self.fails(OtherRow, {"size": 3}, Heights([3, 1, 1, 1]).worths, market)

    def test_is_rising(self):
        self.same(Heights([0, 0, 3, 3]).is_rising(), True)
        self.same(Heights([-5, 0]).is_rising(), True)
        self.same(Heights([0, 3, 2, 5]).is_rising(), False)
        self.same(Heights([1, 0]).is_rising(), False)

    def test_items(self):
        heights = Heights([3, -1, 10])
        self.same([heights[point] for point in range(3)], [3, -1, 10])
        for index in NO_INTEGERS + (-1, 3, slice(0, 2)):
            self.fails(BadPoint, {"point": index}, heights.__getitem__, index)
            self.fails(BadPoint, {"point": index}, lambda: heights[index])

    def test_equality(self):
        self.same(Heights([1, 2]) == Heights((1, 2)), True)
        self.same(Heights([1, 2]) != Heights((1, 2)), False)
        self.same(Heights([1, 2]) == Heights([1, 3]), False)
        self.same(Heights([1, 2]) == Heights([1, 2, 2]), False)
        self.same(Heights([1, 2]) == (1, 2), False)
        self.same(Heights([1, 2]) == [1, 2], False)

    def test_operators(self):
        one, other = Heights([0, 3, 1]), Heights([0, 2, 2])
        for told, levels in (
            (one + other, (0, 5, 3)), (one & other, (0, 2, 1)), (one | other, (0, 3, 2)), (-one, (0, -3, -1)),
        ):
            self.assertIs(type(told), Heights)
            self.same(told.levels, levels)
        self.same((one.levels, other.levels), ((0, 3, 1), (0, 2, 2)))
        longer = Heights([0, 1, 2, 3])
        for function in (lambda a, b: a + b, lambda a, b: a & b, lambda a, b: a | b):
            self.fails(OtherRow, {"size": 3}, function, one, longer)
            self.fails(OtherRow, {"size": 2}, function, longer, one)

    def test_handed_in_lists_stay_apart(self):
        levels = [0, 3, 1]
        heights = Heights(levels)
        levels[0] = 9
        self.same((heights.levels, levels), ((0, 3, 1), [9, 3, 1]))

    def test_defined_in_the_class(self):
        names = ("level", "worth_of", "worth", "worths", "is_rising", "__getitem__", "__len__", "__iter__", "__eq__",
                 "__add__", "__neg__", "__and__", "__or__")
        for name in names:
            self.assertIn(name, vars(Heights))


class Fitting(Case):
    """Promises 33 and 34: heights that fit."""

    def test_fits(self):
        fitted = falling = 0
        for seed, market, demand, found in random_cases(200):
            chance = random.Random(seed)
            world = random_world(seed, market)
            for stock in found[:4]:
                for _ in range(8):
                    heights = random_heights(chance, market.size)
                    wanted = fit_by_words(market, demand, world, stock, heights.levels)
                    self.same(fits(market, demand, world, list(stock)[::-1], heights), wanted)
                    fitted += wanted
                    falling += market.KIND == "lap" and not heights.is_rising()
        self.assertTrue(fitted > 100 and falling > 100)

    def test_fitting(self):
        for seed, market, demand, found in random_cases(200):
            world = random_world(seed, market)
            lowest = min(price(world, stock) for stock in found)
            best = [stock for stock in found if price(world, stock) == lowest]
            for stock in found:
                heights = fitting(market, demand, world, stock)
                if stock not in best:
                    self.assertIsNone(heights)
                    continue
                self.assertIs(type(heights), Heights)
                self.assertTrue(all(fit_by_words(market, demand, world, other, heights.levels) for other in best))
                if found.index(stock) > 20:
                    break

    def test_no_heights_fit_a_dear_stock(self):
        for seed, market, demand, found in random_cases(40, most_places=3, most_parts=4):
            world = random_world(seed, market, 2)
            lowest = min(price(world, stock) for stock in found)
            for stock in found:
                rows = itertools.product(range(-4, 5), repeat=market.size)
                some = any(fit_by_words(market, demand, world, stock, (0,) + row) for row in rows)
                self.assertEqual(some, price(world, stock) == lowest)
                self.same(fitting(market, demand, world, stock) is not None, some)

    def test_which_stocks_are_cheapest(self):
        """Promise 34: the held and the barred parts tell all cheapest stocks."""
        for seed, market, demand, found in random_cases(120):
            world = random_world(seed, market)
            best = cheapest_stocks(market, demand, world)
            heights = fitting(market, demand, world, best[-1])
            told = []
            for stock in found:
                levels = heights.levels
                level = all(
                    levels[place] == levels[place + 1] for place in range(market.size)
                    if covers(market, stock)[place] > row_of(market, demand)[place]
                )
                has = set(held(market, world, heights)) <= set(stock)
                lacks = not set(barred(market, world, heights)) & set(stock)
                if has and lacks and (market.KIND == "join" or level):
                    told.append(stock)
            self.assertEqual(told, best)

    def test_combined_heights(self):
        for seed, market, demand, found in random_cases(80, most_places=3, most_parts=4):
            world = random_world(seed, market, 2)
            stock = cheapest(market, demand, world)
            rows = [row for row in itertools.product(range(-2, 4), repeat=market.size + 1)
                    if fit_by_words(market, demand, world, stock, row)]
            chance = random.Random(seed)
            for _ in range(5 if rows else 0):
                one, other = Heights(chance.choice(rows)), Heights(chance.choice(rows))
                middle = Heights([(a + b) // 2 for a, b in zip(one, other)])
                moved = one + Heights([7] * (market.size + 1))
                for heights in (one & other, one | other, middle, moved):
                    self.same(fits(market, demand, world, stock, heights), True)

    def test_held_and_barred(self):
        for seed in range(80):
            market = random_market(seed)
            world = random_world(seed, market)
            heights = random_heights(random.Random(seed), market.size)
            there = [part for part in range(market.many) if part not in market.gone]
            worth = [heights[end] - heights[begin] for begin, end in market.runs]
            self.same(held(market, world, heights), tuple(part for part in there if worth[part] > world[part]))
            self.same(barred(market, world, heights), tuple(part for part in there if worth[part] < world[part]))

    def test_in_words(self):
        market = Lap(2, [(0, 2), (0, 1), (1, 2), (0, 2)], gone=[3])
        world = (3, 1, 1, 0)
        self.same(fits(market, 1, world, [1, 2], Heights([5, 6, 7])), True)
        self.same(fits(market, 1, world, [1, 2], Heights([0, 2, 1])), False)
        self.same(fits(market, [1, 0], world, [1], Heights([0, 1, 0])), False)
        self.same(fits(Join(2, market.runs), [1, 0], (3, 1, 1, 5), [1], Heights([0, 1, 0])), True)
        self.same(held(market, world, Heights([0, 2, 9])), (0, 1, 2))
        self.same(barred(market, world, Heights([0, 2, -9])), (0, 2))


class Values(Case):
    """Promise 35: the value of heights."""

    def value(self, market, demand, world, levels):
        row = row_of(market, demand)
        rises = [levels[place + 1] - levels[place] for place in range(market.size)]
        gains = [max(0, levels[end] - levels[begin] - world[part])
                 for part, (begin, end) in enumerate(market.runs) if part not in market.gone]
        return sum(number * rise for number, rise in zip(row, rises)) - sum(gains)

    def test_values(self):
        for seed, market, demand, found in random_cases(150):
            chance = random.Random(seed)
            world = random_world(seed, market)
            lowest = price_of(market, demand, world)
            for _ in range(10):
                heights = random_heights(chance, market.size)
                if market.KIND == "lap" and not heights.is_rising():
                    place = next(j for j in range(market.size) if heights[j + 1] < heights[j])
                    self.fails(BadHeights, {"place": place}, value_of, market, demand, world, heights)
                    continue
                told = value_of(market, demand, world, heights)
                self.same(told, self.value(market, demand, world, heights.levels))
                self.assertLessEqual(told, lowest)
                fitted = fits(market, demand, world, cheapest(market, demand, world), heights)
                self.same(told == lowest, fitted)
                for stock in found[:3]:
                    self.check_gap(market, demand, world, stock, heights, told)
            heights = fitting(market, demand, world, cheapest(market, demand, world))
            self.same(value_of(market, demand, world, heights), lowest)

    def check_gap(self, market, demand, world, stock, heights, value):
        worth = heights.worths(market)
        there = [part for part in range(market.many) if part not in market.gone]
        gap = sum(max(0, world[part] - worth[part]) for part in stock)
        gap += sum(max(0, worth[part] - world[part]) for part in there if part not in stock)
        counts, row = covers(market, stock), row_of(market, demand)
        gap += sum((counts[j] - row[j]) * (heights[j + 1] - heights[j]) for j in range(market.size))
        self.assertEqual(price(world, stock) - value, gap)

    def test_demands_without_stocks(self):
        market = Join(2, [(0, 2), (0, 1)])
        self.same(value_of(market, 2, (3, 1), Heights([0, 1, 5])), 8)
        self.same(value_of(market, 2, (3, 1), Heights([0, 1, 100])), 103)
        self.same(value_of(Lap(1, []), -3, (), Heights([0, 4])), -12)

    def test_gone_parts_do_not_count(self):
        market = Join(1, [(0, 1), (0, 1)], gone=[0])
        self.same(value_of(market, 1, (0, 4), Heights([0, 9])), 4)
        for seed in range(40):
            market = random_market(seed, Join)
            demand = random_demand(seed, market)
            world = random_world(seed, market)
            heights = random_heights(random.Random(seed), market.size)
            self.same(value_of(market, demand, world, heights), self.value(market, demand, world, heights.levels))


class Wrong(Case):
    """Promises 1 and 2."""

    def test_orders(self):
        for kind in (Join, Lap):
            market = kind(2, [(0, 2), (0, 1), (1, 2), (0, 2)], gone=[3])
            world = (3, 1, 1, 0)
            flat = Heights([0, 1, 2])
            wrong_demand = (1, [1], BadDemand, {"place": -1})
            wrong_world = (2, [3, 1, 1], BadWorld, {"place": -1})
            wrong_stock = (3, [0, 4], BadSet, {"place": 1})
            other_row = (4, Heights([2, 1, 1, 0]), OtherRow, {"size": 3})
            for no_stock in ((3, [1], NotAStock, {"place": 1}), (3, [3], NotAStock, {"place": -1})):
                faults = (wrong_demand, wrong_world, wrong_stock, other_row, no_stock)
                self.order(fits, (market, 1, world, [1, 2], flat), faults)
                self.order(fitting, (market, 1, world, [1, 2]), faults[:3] + faults[4:])
            other_row = (3, Heights([2, 1]), OtherRow, {"size": 1})
            self.order(value_of, (market, 1, world, flat), (wrong_demand, wrong_world, other_row))
            for function in (held, barred):
                faults = ((1, [3, 1, 1, None], BadWorld, {"place": 3}), (2, Heights([2, 1]), OtherRow, {"size": 1}))
                self.order(function, (market, world, flat), faults)

    def test_falling_heights(self):
        lap = Lap(3, [(0, 3)])
        falling = Heights([0, 1, 0, -1])
        self.fails(BadHeights, {"place": 1}, value_of, lap, 1, [2], falling)
        self.fails(OtherRow, {"size": 3}, value_of, Lap(2, [(0, 2)]), 1, [2], falling)
        self.same(value_of(Join(3, [(0, 3)]), 1, [2], falling), -1)
        self.same(fits(lap, 1, [2], [0], falling), False)
        self.fails(NotAStock, {"place": 0}, fits, lap, 1, [2], [], falling)
        self.same((held(lap, [2], falling), barred(lap, [2], falling)), ((), (0,)))

    def test_arguments_stay(self):
        for kind in (Join, Lap):
            market = kind(2, [(0, 2), (0, 1), (1, 2)])
            demand, world, stock, heights = [1, 1], [3, 1, 1], [2, 1], Heights([0, 1, 2])
            first = (fits(market, demand, world, stock, heights), fitting(market, demand, world, stock).levels,
                     value_of(market, demand, world, heights), held(market, world, heights),
                     barred(market, world, heights))
            self.assertEqual((demand, world, stock), ([1, 1], [3, 1, 1], [2, 1]))
            again = (fits(market, 1, (3, 1, 1), (1, 2), heights), fitting(market, 1, (3, 1, 1), (1, 2)).levels,
                     value_of(market, 1, (3, 1, 1), heights), held(market, (3, 1, 1), heights),
                     barred(market, (3, 1, 1), heights))
            self.same(first, again)


if __name__ == "__main__":
    unittest.main()
