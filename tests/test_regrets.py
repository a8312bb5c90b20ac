import itertools
import random
import unittest

from keptparts.cheapest import cheapest, price_of
from keptparts.errors import (
    BadDemand, BadHeights, BadNumber, BadSet, BadWorld, NoStock, NotAStock, OtherRow, OtherSize,
)
from keptparts.heights import Heights, fits, value_of
from keptparts.markets import Join, Lap
from keptparts.notes import Notes
from keptparts.possible import is_possible
from keptparts.regrets import least_misfit, misfit, price_ends, regret, regret_in, world_at
from keptparts.safety import is_safe, safe_heights
from support import (
    NO_INTEGERS, NO_ROWS, Case, agreeing, best_price, covers, fit_by_words, great_market, great_notes, price,
    random_cases, random_notes, random_stock, row_of,
)


def misfit_by_words(market, demand, notes, stock, levels):
    worth = [levels[end] - levels[begin] for begin, end in market.runs]
    total = 0
    for part in range(len(market.runs)):
        low, high = notes.stretches[part]
        if part in stock:
            total += max(0, high - worth[part])
        elif part not in market.gone:
            total += max(0, worth[part] - low)
    counts, row = covers(market, stock), row_of(market, demand)
    return total + sum((counts[j] - row[j]) * (levels[j + 1] - levels[j]) for j in range(market.size))


def random_levels(chance, market, top=6):
    levels = [chance.randint(-2, top) for _ in range(market.size + 1)]
    return sorted(levels) if market.KIND == "lap" else levels


class Regrets(Case):
    """Promises 55 and 56: regrets."""

    def test_small_markets(self):
        zero = some = over = 0
        for seed, market, demand, found in random_cases(100, most_parts=5):
            notes = random_notes(seed, market)
            told = agreeing(notes)
            for stock in found[:6]:
                asked = list(stock)[::-1]
                rows = {world: price(world, stock) - best_price(world, found) for world in told}
                for world in told[:5]:
                    self.same(regret_in(market, demand, list(world), asked), rows[world])
                ends = rows[notes.low_on(stock)], rows[notes.high_on(stock)]
                self.same(regret(market, demand, notes, asked), max(rows.values()))
                self.same(max(rows.values()), ends[1])
                self.assertEqual(sorted(set(rows.values())), list(range(ends[0], ends[1] + 1)))
                self.same(ends[1] == 0, is_safe(market, demand, notes, stock))
                self.same(ends[0] == 0, is_possible(market, demand, notes, stock))
                zero += ends[1] == 0
                some += ends[1] > 0
                over += any(a > b for a, b in zip(covers(market, stock), row_of(market, demand)))
        self.assertTrue(zero > 50 and some > 50 and over > 50)

    def test_misfit(self):
        falling = 0
        for seed, market, demand, found in random_cases(80, most_parts=5):
            notes = random_notes(seed, market)
            chance = random.Random(seed)
            told = agreeing(notes)
            for stock in found[:4]:
                for _ in range(6):
                    heights = Heights(random_levels(chance, market))
                    number = misfit(market, demand, notes, list(stock)[::-1], heights)
                    self.same(number, misfit_by_words(market, demand, notes, stock, heights.levels))
                    self.assertLessEqual(regret(market, demand, notes, stock), number)
                    every = all(fit_by_words(market, demand, world, stock, heights.levels) for world in told)
                    self.same(number == 0, every)
                    for world in told[::5]:
                        seen = misfit(market, demand, Notes.seen_at(world), stock, heights)
                        self.same(seen, price(world, stock) - value_of(market, demand, world, heights))
                        self.assertLessEqual(price(world, stock), best_price(world, found) + number)
                if market.KIND == "lap":
                    levels = random_levels(chance, market)[::-1]
                    place = next((j for j in range(market.size) if levels[j + 1] < levels[j]), None)
                    if place is not None:
                        falling += 1
                        self.fails(BadHeights, {"place": place}, misfit, market, demand, notes, stock,
                                   Heights(levels))
        self.assertGreater(falling, 40)

    def test_least_misfit(self):
        for seed, market, demand, found in random_cases(60, most_places=3, most_parts=5):
            notes = random_notes(seed, market)
            for stock in found[:4]:
                heights = least_misfit(market, demand, notes, list(stock)[::-1])
                self.assertIs(type(heights), Heights)
                least = regret(market, demand, notes, stock)
                self.same(misfit(market, demand, notes, stock, heights), least)
                high = notes.high_on(stock)
                best = cheapest(market, demand, high)
                self.same(fits(market, demand, high, best, heights), True)
                for row in itertools.product(range(-2, 4), repeat=market.size):
                    levels = (0,) + row
                    if market.KIND == "join" or list(levels) == sorted(levels):
                        other = misfit_by_words(market, demand, notes, stock, levels)
                        self.assertEqual(other == least, fit_by_words(market, demand, high, best, levels))
                        self.assertGreaterEqual(other, least)

    def test_in_words(self):
        market = Lap(2, [(0, 2), (0, 1), (1, 2), (0, 2)], gone=[3])
        notes = Notes([(2, 5), (0, 3), (4, 4), (0, 9)])
        heights = Heights([0, 1, 7])
        self.same(misfit(market, 1, notes, [0, 1], heights), 0 + 2 + 2 + 1)
        self.same(misfit(market, 1, notes, [0], heights), 1 + 2)
        self.same(misfit(market, [1, -1], notes, [0], heights), 1 + 2 + 12)
        self.same(regret(market, 1, notes, [0, 1]), 3)
        self.same(regret(market, 1, notes, [0]), 1)
        self.same(regret_in(market, 1, [5, 3, 4, 9], [1, 0]), 3)
        for kind in (Join, Lap):
            self.same(regret(kind(1, []), 0, Notes([]), []), 0)
            self.same(misfit(kind(1, []), 0, Notes([]), [], Heights([3, 9])), 0)

    def test_great_markets(self):
        for seed in range(20):
            market = great_market(seed)
            stock, demand = random_stock(seed, market)
            notes = great_notes(seed, market)
            high = notes.high_on(stock)
            wanted = price(high, stock) - price_of(market, demand, high)
            self.same(regret(market, demand, notes, stock), wanted)
            self.same(regret_in(market, demand, high, stock), wanted)
            heights = least_misfit(market, demand, notes, stock)
            self.same(misfit(market, demand, notes, stock, heights), wanted)
            self.assertGreaterEqual(misfit(market, demand, notes, stock, Heights([0] * 31)), wanted)
            best = cheapest(market, demand, notes.lows)
            heights = safe_heights(market, demand, Notes.seen_at(notes.lows), best)
            self.same(misfit(market, demand, Notes.seen_at(notes.lows), best, heights), 0)


class EveryPrice(Case):
    """Promise 54: the least prices that there can be."""

    def test_small_markets(self):
        wide = 0
        for seed, market, demand, found in random_cases(150, most_parts=6):
            notes = random_notes(seed, market, 40)
            told = {world: best_price(world, found) for world in agreeing(notes)}
            low, high = min(told.values()), max(told.values())
            self.same(price_ends(market, demand, notes), (low, high))
            self.assertEqual(sorted(set(told.values())), list(range(low, high + 1)))
            for number in range(low, high + 1):
                world = world_at(market, demand, notes, number)
                self.assertIs(type(world), tuple)
                self.assertEqual(told[world], number)
            for number in (low - 1, high + 1, -1, 10 ** 31, -10 ** 31):
                self.assertIsNone(world_at(market, demand, notes, number))
            wide += high > low + 1
        self.assertGreater(wide, 40)

    def test_edges(self):
        for kind in (Join, Lap):
            market = kind(1, [(0, 1), (0, 1)], gone=[1])
            notes = Notes([(3, 10 ** 30), (0, 5)])
            self.same(price_ends(market, 1, notes), (3, 10 ** 30))
            for number in (3, 4, 10 ** 29, 10 ** 30):
                world = world_at(market, 1, notes, number)
                self.same(world[0], number)
                self.same(notes.agrees(world), True)
            self.same([world_at(market, 1, notes, number) for number in (2, 10 ** 30 + 1)], [None, None])
            self.same(price_ends(kind(1, []), 0, Notes([])), (0, 0))
            self.same([world_at(kind(1, []), 0, Notes([]), number) for number in (-1, 0, 1)], [None, (), None])
            self.same(world_at(market, 0, notes, 0) is not None, True)
            self.same(world_at(market, 0, notes, 1), None)

    def test_great_markets(self):
        wide = 0
        for seed in range(20):
            market = great_market(seed)
            _, demand = random_stock(seed, market)
            notes = great_notes(seed, market)
            low, high = price_ends(market, demand, notes)
            self.same((low, high), (price_of(market, demand, notes.lows), price_of(market, demand, notes.highs)))
            wide += high > low
            chance = random.Random(seed)
            for number in (low, high, chance.randint(low, high), chance.randint(low, high)):
                world = world_at(market, demand, notes, number)
                self.same(notes.agrees(world), True)
                self.same(price_of(market, demand, world), number)
            self.same([world_at(market, demand, notes, number) for number in (low - 1, high + 1)], [None, None])
        self.assertGreater(wide, 15)


class Wrong(Case):
    """Promises 1 and 2."""

    def markets(self):
        return [kind(2, [(0, 2), (0, 1), (1, 2), (0, 2)], gone=[3]) for kind in (Join, Lap)]

    def test_orders(self):
        notes = Notes([(0, 2), (1, 1), (0, 4), (0, 0)])
        demand = (1, [1, None], BadDemand, {"place": 1})
        size = (2, Notes([(0, 1)] * 3), OtherSize, {"size": 3})
        bad = (3, [0, 0], BadSet, {"place": 1})
        for market in self.markets():
            for no_stock, place in (([1], 1), ([3], -1)):
                short = (3, no_stock, NotAStock, {"place": place})
                for function in (regret, least_misfit):
                    self.order(function, (market, 1, notes, [0]), (demand, bad, size, short))
                self.order(regret_in, (market, 1, [1, 2, 3, 4], [0]), (
                    demand, (2, [1, 2, -3, 4], BadWorld, {"place": 2}), bad, short,
                ))
                self.order(misfit, (market, 1, notes, [0], Heights([0, 1, 2])), (
                    demand, bad, (4, Heights([0, 1]), OtherRow, {"size": 1}), size, short,
                ))
            self.order(price_ends, (market, 1, notes), (demand, size, (1, 9, NoStock, {})))
            self.order(world_at, (market, 1, notes, 1), (
                demand, (3, "1", BadNumber, {"name": "number"}), size, (1, 9, NoStock, {}),
            ))
            for wrong in NO_INTEGERS:
                self.fails(BadNumber, {"name": "number"}, world_at, market, 9, notes, wrong)
            for wrong in NO_ROWS:
                self.fails(BadWorld, {"place": -1}, regret_in, market, 1, wrong, None)

    def test_falling_heights(self):
        notes, other = Notes.unknown(4, 3), Notes.unknown(3, 3)
        join, lap = self.markets()
        falling = Heights([1, 0, -1])
        self.fails(BadHeights, {"place": 0}, misfit, lap, 1, other, [1], falling)
        self.fails(BadSet, {"place": -1}, misfit, lap, 1, other, None, falling)
        self.fails(OtherRow, {"size": 1}, misfit, lap, 1, other, [1], Heights([1, 0]))
        self.fails(OtherSize, {"size": 3}, misfit, join, 1, other, [1], falling)
        self.same(misfit(join, 1, notes, [0], falling), 5)

    def test_arguments_stay(self):
        notes = Notes([(0, 2), (1, 1), (0, 4), (0, 0)])
        for market in self.markets():
            demand, stock, world, heights = [1, 1], [2, 1], [2, 1, 3, 0], Heights([0, 1, 2])
            first = (regret(market, demand, notes, stock), regret_in(market, demand, world, stock),
                     misfit(market, demand, notes, stock, heights), price_ends(market, demand, notes),
                     world_at(market, demand, notes, 1), least_misfit(market, demand, notes, stock).levels)
            self.assertEqual((demand, stock, world), ([1, 1], [2, 1], [2, 1, 3, 0]))
            stock, world = (1, 2), (2, 1, 3, 0)
            self.same(first, (regret(market, 1, notes, stock), regret_in(market, 1, world, stock),
                              misfit(market, 1, notes, stock, heights), price_ends(market, 1, notes),
                              world_at(market, 1, notes, 1), least_misfit(market, 1, notes, stock).levels))


if __name__ == "__main__":
    unittest.main()
