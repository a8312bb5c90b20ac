import random
import unittest

from keptparts.cheapest import cheapest, is_cheapest
from keptparts.errors import BadDemand, BadSet, NoStock, NotAStock, NotPossible, OtherSize, TooMany
from keptparts.heights import Heights, fits
from keptparts.markets import Join, Lap
from keptparts.notes import Notes
from keptparts.possible import is_possible, possible_heights, possible_stocks, trail
from keptparts.rings import is_ring
from keptparts.stocks import beside_stock
from support import (
    Case, agreeing, best_price, best_stocks, covers, fit_by_words, great_market, great_notes, is_a_stock, price,
    random_cases, random_notes, random_stock, ring_moves, row_of, stocks,
)


def possible_ones(found, told):
    """The stocks that are cheapest in one of the worlds."""
    return sorted(set(stock for world in told for stock in best_stocks(world, found)))


def one_ring(market, demand, before, after):
    """Whether the second stock is the first one behind one ring."""
    outs, ins = sorted(set(before) - set(after)), sorted(set(after) - set(before))
    return is_ring(market, demand, before, outs, ins)


class Possible(Case):
    """Promise 47 (b)."""

    def test_small_markets(self):
        told = {True: 0, False: 0}
        over = 0
        for seed, market, demand, found in random_cases(120, most_parts=5):
            notes = random_notes(seed, market)
            wanted = possible_ones(found, agreeing(notes))
            self.same(possible_stocks(market, demand, notes), wanted)
            for stock in found[:8]:
                possible = stock in wanted
                told[possible] += 1
                asked = list(stock)[::-1]
                self.same(is_possible(market, demand, notes, asked), possible)
                low = notes.low_on(stock)
                self.same(is_cheapest(market, demand, low, stock), possible)
                moves = ring_moves(market, demand, stock)
                self.assertEqual(possible, all(price(notes.lows, outs) <= price(notes.highs, ins)
                                               for outs, ins in moves))
                heights = possible_heights(market, demand, notes, asked)
                if possible:
                    over += any(a > b for a, b in zip(covers(market, stock), row_of(market, demand)))
                    self.assertIs(type(heights), Heights)
                    self.assertTrue(fit_by_words(market, demand, low, stock, heights.levels))
                else:
                    self.assertIsNone(heights)
        self.assertTrue(min(told.values()) > 60 and over > 20)

    def test_closed_table(self):
        """Promise 52: every possible stock is reached over possible stocks."""
        for seed, market, demand, found in random_cases(60, most_parts=6):
            notes = random_notes(seed, market)
            wanted = possible_stocks(market, demand, notes)
            met, waiting = {wanted[-1]}, [wanted[-1]]
            while waiting:
                for other in beside_stock(market, demand, waiting.pop()):
                    if other in wanted and other not in met:
                        met.add(other)
                        waiting.append(other)
            self.assertEqual(sorted(met), wanted)

    def test_in_words(self):
        for kind in (Join, Lap):
            market = kind(1, [(0, 1)] * 4, gone=[3])
            notes = Notes([(2, 4), (4, 9), (5, 6), (0, 0)])
            self.same(possible_stocks(market, 1, notes), [(0,), (1,)])
            self.same([is_possible(market, 1, notes, [part]) for part in range(3)], [True, True, False])
            self.same(possible_heights(market, 1, notes, [2]), None)
            self.same(possible_stocks(kind(1, []), 0, Notes([])), [()])
        self.same(possible_stocks(Lap(1, [(0, 1), (0, 1)]), 1, Notes([(0, 3), (0, 9)])), [(0,), (0, 1), (1,)])

    def test_ten_parts(self):
        for kind in (Join, Lap):
            market = kind(1, [(0, 1)] * 12, gone=[3])
            notes = Notes.seen_at([1] * 12)
            self.fails(TooMany, {"number": 11}, possible_stocks, market, 1, notes)
            self.fails(NoStock, {}, possible_stocks, market, 12, notes)
            fewer = market - [0]
            self.same(possible_stocks(fewer, 1, notes), [(part,) for part in (1, 2, 4, 5, 6, 7, 8, 9, 10, 11)])
            self.same(is_possible(market, 1, notes, [11]), True)

    def test_great_markets(self):
        told = {True: 0, False: 0}
        for seed in range(40):
            market = great_market(seed)
            stock, demand = random_stock(seed, market)
            notes = great_notes(seed, market)
            best = cheapest(market, demand, notes.low_on(stock))
            self.same(is_possible(market, demand, notes, cheapest(market, demand, notes.highs)), True)
            for other in (stock, best):
                low = notes.low_on(other)
                wanted = price(low, other) == price(low, cheapest(market, demand, low))
                told[wanted] += 1
                self.same(is_possible(market, demand, notes, other), wanted)
                heights = possible_heights(market, demand, notes, other)
                self.same(heights is not None, wanted)
                if wanted:
                    self.same(fits(market, demand, low, other, heights), True)
        self.assertTrue(min(told.values()) > 10)


class Trails(Case):
    """Promise 52: any two possible stocks are joined by possible stocks."""

    def test_small_markets(self):
        long = 0
        for seed, market, demand, found in random_cases(150, most_parts=6):
            notes = random_notes(seed, market, 60)
            chance = random.Random(seed)
            wanted = possible_ones(found, agreeing(notes))
            for one in chance.sample(wanted, min(4, len(wanted))):
                for other in chance.sample(wanted, min(4, len(wanted))):
                    told = trail(market, demand, notes, list(one)[::-1], list(other))
                    self.assertEqual((told[0], told[-1]), (one, other))
                    if one == other:
                        self.same(told, [one])
                    for stock in told:
                        self.assertIn(stock, wanted)
                    for before, after in zip(told, told[1:]):
                        moves = ring_moves(market, demand, before)
                        self.assertIn(after, [tuple(sorted(set(before) - set(outs) | set(ins))) for outs, ins in moves])
                    long += len(told) > 2
        self.assertGreater(long, 60)

    def test_great_markets(self):
        long = 0
        for seed in range(30):
            market = great_market(seed)
            _, demand = random_stock(seed, market)
            notes = great_notes(seed, market)
            ends = [cheapest(market, demand, notes.lows), cheapest(market, demand, notes.highs)]
            ends.append(cheapest(market, demand, notes.low_on(ends[0])))
            ends.append(cheapest(market, demand, notes.high_on(list(range(0, 60, 2)))))
            for one, other in zip(ends, ends[1:] + ends[:1]):
                told = trail(market, demand, notes, one, other)
                self.assertEqual((told[0], told[-1]), (one, other))
                long = max(long, len(told))
                for stock in told:
                    self.assertTrue(is_a_stock(market, demand, stock))
                    self.same(is_possible(market, demand, notes, stock), True)
                for before, after in zip(told, told[1:]):
                    self.same(one_ring(market, demand, before, after), True)
            self.same(trail(market, demand, notes, ends[0], ends[0]), [ends[0]])
        self.assertGreater(long, 5)

    def test_not_possible(self):
        for kind in (Join, Lap):
            market = kind(1, [(0, 1)] * 4, gone=[3])
            notes = Notes([(2, 4), (4, 9), (5, 6), (0, 0)])
            self.fails(NotPossible, {"parts": (2,)}, trail, market, 1, notes, [2], [0])
            self.fails(NotPossible, {"parts": (2,)}, trail, market, 1, notes, [0], [2])
            self.fails(NotPossible, {"parts": (2,)}, trail, market, 1, notes, [2], [2])
        market = Join(2, [(0, 2), (0, 1), (1, 2), (0, 2)])
        notes = Notes([(2, 4), (4, 9), (5, 6), (7, 7)])
        self.fails(NotPossible, {"parts": (1, 2)}, trail, market, 1, notes, [2, 1], [3])
        self.fails(NotPossible, {"parts": (3,)}, trail, market, 1, notes, [3], [2, 1])

    def test_equal_prices(self):
        market = Join(1, [(0, 1)] * 60)
        told = trail(market, 30, Notes.seen_at([5] * 60), list(range(30)), list(range(30, 60)))
        self.assertEqual((told[0], told[-1], len(told)), (tuple(range(30)), tuple(range(30, 60)), 31))
        market = Lap(1, [(0, 1)] * 3)
        self.assertEqual(trail(market, 1, Notes.seen_at([5, 0, 0]), [1], [1, 2]), [(1,), (1, 2)])


class Wrong(Case):
    """Promises 1 and 2."""

    def markets(self):
        return [kind(2, [(0, 2), (0, 1), (1, 2), (0, 2)], gone=[3]) for kind in (Join, Lap)]

    def test_orders(self):
        notes = Notes([(0, 2), (1, 1), (0, 4), (0, 0)])
        demand = (1, [1, None], BadDemand, {"place": 1})
        size = (2, Notes([(0, 1)] * 3), OtherSize, {"size": 3})
        for market in self.markets():
            for no_stock, place in (([1], 1), ([3], -1)):
                for function in (is_possible, possible_heights):
                    self.order(function, (market, 1, notes, [0]), (
                        demand, (3, [0, 0], BadSet, {"place": 1}), size,
                        (3, no_stock, NotAStock, {"place": place}),
                    ))
                self.order(trail, (market, 1, notes, [0], [1, 2]), (
                    demand, (3, [0, 0], BadSet, {"place": 1}), (4, 5, BadSet, {"place": -1}), size,
                    (3, no_stock, NotAStock, {"place": place}), (4, [2], NotAStock, {"place": 0}),
                ))
            self.order(possible_stocks, (market, 1, notes), (demand, size, (1, 9, NoStock, {})))
            self.fails(BadSet, {"place": 1}, trail, market, 1, notes, [0, 9], [9])
            seen = Notes.seen_at([1, 1, 1, 0])
            self.fails(NotAStock, {"place": 0}, trail, market, 1, seen, [1, 2], [2])
            self.fails(NotPossible, {"parts": (1, 2)}, trail, market, 1, seen, [1, 2], [0])

    def test_arguments_stay(self):
        notes = Notes([(0, 2), (1, 1), (0, 4), (0, 0)])
        for market in self.markets():
            demand, one, other = [1, 1], [2, 1], [0]
            first = (possible_stocks(market, demand, notes), trail(market, demand, notes, one, other))
            self.assertEqual((demand, one, other), ([1, 1], [2, 1], [0]))
            for told in first:
                told.append("more")
            again = (possible_stocks(market, 1, notes), trail(market, 1, notes, (1, 2), (0,)))
            self.same(first, tuple(told + ["more"] for told in again))
            self.same(again[0], possible_ones(stocks(market, 1), agreeing(notes)))
            self.assertTrue(best_price(notes.lows, again[0]) == 0)


if __name__ == "__main__":
    unittest.main()
