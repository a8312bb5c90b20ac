import itertools
import random
import unittest

from keptparts.errors import OtherRow, OtherSize
from keptparts.heights import Heights, fits
from keptparts.markets import Join, Lap
from keptparts.nearest import nearest_world, surely_barred, surely_held
from keptparts.notes import Notes
from keptparts.possible import is_possible, possible_heights
from support import Case, agreeing, best_stocks, covers, random_cases, random_market, random_notes, row_of


class Nearest(Case):
    """Promise 53: the nearest world, surely held and surely barred parts."""

    def test_small_markets(self):
        held = barred = 0
        for seed in range(80):
            market = random_market(seed)
            notes = random_notes(seed, market)
            chance = random.Random(seed)
            heights = Heights([chance.randint(-3, 8) for _ in range(market.size + 1)])
            worth = [heights[end] - heights[begin] for begin, end in market.runs]
            world = nearest_world(market, notes, heights)
            self.assertIs(type(world), tuple)
            self.same(notes.agrees(world), True)
            for part, (low, high) in enumerate(notes.stretches):
                distance = [abs(number - worth[part]) for number in range(low, high + 1)]
                self.assertEqual(abs(world[part] - worth[part]), min(distance))
            there = [part for part in range(market.many) if part not in market.gone]
            wanted = tuple(part for part in there if worth[part] > notes.highs[part])
            self.same(surely_held(market, notes, heights), wanted)
            held += len(wanted)
            wanted = tuple(part for part in there if worth[part] < notes.lows[part])
            self.same(surely_barred(market, notes, heights), wanted)
            barred += len(wanted)
        self.assertTrue(held > 40 and barred > 40)

    def test_possible_stocks(self):
        told = {True: 0, False: 0}
        for seed, market, demand, found in random_cases(40, most_places=3, most_parts=4):
            notes = random_notes(seed, market, 12)
            possible = [stock for world in agreeing(notes) for stock in best_stocks(world, found)]
            for stock in found[:3]:
                some = False
                counts, row = covers(market, stock), row_of(market, demand)
                for levels in itertools.product(range(-5, 8), repeat=market.size):
                    heights = Heights((0,) + levels)
                    if market.KIND == "lap":
                        rises = [heights[j + 1] - heights[j] for j in range(market.size)]
                        if min(rises) < 0 or any(rise and a > b for rise, a, b in zip(rises, counts, row)):
                            continue
                    held, barred = surely_held(market, notes, heights), surely_barred(market, notes, heights)
                    if set(held) <= set(stock) and not set(barred) & set(stock):
                        some = True
                        world = nearest_world(market, notes, heights)
                        self.same(fits(market, demand, world, stock, heights), True)
                self.assertEqual(some, stock in possible)
                told[some] += 1
        self.assertTrue(min(told.values()) > 5, told)

    def test_heights_of_possible_stocks(self):
        for seed, market, demand, found in random_cases(60):
            notes = random_notes(seed, market)
            for stock in found[:3]:
                heights = possible_heights(market, demand, notes, stock)
                self.same(heights is not None, is_possible(market, demand, notes, stock))
                if heights is not None:
                    world = nearest_world(market, notes, heights)
                    self.same(fits(market, demand, world, stock, heights), True)
                    self.assertTrue(set(surely_held(market, notes, heights)) <= set(stock))
                    self.assertFalse(set(surely_barred(market, notes, heights)) & set(stock))

    def test_in_words(self):
        far = 10 ** 30
        notes = Notes([(2, 5), (2, 5), (2, 5), (0, far), (4, 4), (9, 9), (1, 3)])
        for kind in (Join, Lap):
            market = kind(3, [(0, 1), (1, 2), (2, 3), (0, 3), (0, 1), (0, 1), (0, 3)], gone=[5, 6])
            heights = Heights([10, 14, 13, 20])
            self.same(nearest_world(market, notes, heights), (4, 2, 5, 10, 4, 9, 3))
            self.same(surely_held(market, notes, heights), (2,))
            self.same(surely_barred(market, notes, heights), (1,))
            edge = Heights([0, 5, 7, far])
            self.same(nearest_world(market, notes, edge), (5, 2, 5, far, 4, 9, 3))
            self.same((surely_held(market, notes, edge), surely_barred(market, notes, edge)), ((2, 4), ()))
            self.same(nearest_world(kind(1, []), Notes([]), Heights([3, 1])), ())

    def test_orders(self):
        for kind in (Join, Lap):
            market = kind(2, [(0, 1), (0, 2)], gone=[1])
            for function in (nearest_world, surely_held, surely_barred):
                right = (market, Notes([(0, 1), (2, 3)]), Heights([0, 1, 2]))
                for size in (1, 3):
                    self.order(function, right, (
                        (2, Heights([0] * (size + 1)), OtherRow, {"size": size}),
                        (1, Notes([(0, 1)] * size), OtherSize, {"size": size}),
                    ))
                function(*right)
                self.same((right[1].stretches, right[2].levels), (((0, 1), (2, 3)), (0, 1, 2)))


if __name__ == "__main__":
    unittest.main()
