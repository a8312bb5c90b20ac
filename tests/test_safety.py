import itertools
import random
import unittest

from keptparts.cheapest import cheapest, is_cheapest, price_of
from keptparts.differences import split_run, split_sizes
from keptparts.errors import BadDemand, BadSet, NoStock, NotAStock, OtherSize
from keptparts.heights import Heights, fits
from keptparts.markets import Join, Lap
from keptparts.notes import Notes
from keptparts.possible import is_possible, possible_stocks
from keptparts.regrets import regret
from keptparts.rings import is_ring, is_walk
from keptparts.safety import is_safe, only_possible, safe_heights, safe_stock, unsafe_ring
from keptparts.stocks import beside_stock
from keptparts.tables import Table
from support import (
    Case, agreeing, all_runs, behind, best_price, best_stocks, covers, fit_by_words, great_market, great_notes,
    is_a_stock, more_by, parts_of, price, random_cases, random_notes, random_stock, ring_moves, row_of, stocks,
)


def safe_ones(found, told):
    """The stocks that are cheapest in all of the worlds."""
    return [stock for stock in found if all(price(world, stock) == best_price(world, found) for world in told)]


def gap(notes, told):
    """What the outs of a move can cost more than its ins."""
    return price(notes.highs, told[0]) - price(notes.lows, told[1])


class Safe(Case):
    """Promise 47 (a)."""

    def test_small_markets(self):
        safe = unsafe = over = 0
        for seed, market, demand, found in random_cases(120, most_parts=5):
            notes = random_notes(seed, market)
            told = agreeing(notes)
            wanted = safe_ones(found, told)
            for stock in found[:8]:
                asked = list(stock)[::-1]
                self.same(is_safe(market, demand, notes, asked), stock in wanted)
                self.same(is_cheapest(market, demand, notes.high_on(stock), stock), stock in wanted)
                ring = unsafe_ring(market, demand, notes, asked)
                heights = safe_heights(market, demand, notes, asked)
                moves = ring_moves(market, demand, stock)
                self.assertEqual(stock in wanted, all(gap(notes, move) <= 0 for move in moves))
                if stock in wanted:
                    safe += 1
                    over += any(a > b for a, b in zip(covers(market, stock), row_of(market, demand)))
                    self.assertIsNone(ring)
                    self.assertIs(type(heights), Heights)
                    for world in told:
                        self.assertTrue(fit_by_words(market, demand, world, stock, heights.levels))
                        self.same(fits(market, demand, world, stock, heights), True)
                else:
                    unsafe += 1
                    self.assertIsNone(heights)
                    self.assertIn(ring, moves)
                    self.assertGreater(gap(notes, ring), 0)
                    high = notes.high_on(stock)
                    self.assertEqual(price(high, behind(stock, ring)), price(high, stock) - gap(notes, ring))
        self.assertTrue(safe > 80 and unsafe > 80 and over > 10)

    def test_heights_of_two_worlds(self):
        """Heights fit in every agreeing world exactly if they fit in S high."""
        for seed, market, demand, found in random_cases(40, most_places=3, most_parts=4):
            notes = random_notes(seed, market, 8)
            stock = found[0]
            for row in itertools.product(range(-2, 4), repeat=market.size):
                heights = Heights((0,) + row)
                every = all(fit_by_words(market, demand, world, stock, heights.levels) for world in agreeing(notes))
                self.same(fits(market, demand, notes.high_on(stock), stock, heights), every)

    def test_safe_stock(self):
        """Promise 49: one candidate."""
        none = some = 0
        for seed, market, demand, found in random_cases(200, most_parts=5):
            notes = random_notes(seed, market, 60, 2)
            wanted = safe_ones(found, agreeing(notes))
            told = safe_stock(market, demand, notes)
            if not wanted:
                none += 1
                self.assertIsNone(told)
                continue
            some += 1
            self.assertIn(told, wanted)
            least = min((price(notes.lows, stock), price(notes.highs, stock)) for stock in found)
            for stock in found:
                if (price(notes.lows, stock), price(notes.highs, stock)) == least:
                    self.assertIn(stock, wanted)
        self.assertTrue(none > 25 and some > 40, (none, some))

    def test_equal_low_ends(self):
        """The high ends decide between stocks of one lowest price."""
        for kind in (Join, Lap):
            market = kind(1, [(0, 1)] * 3)
            self.same(safe_stock(market, 1, Notes([(2, 9), (2, 2), (2, 5)])), (1,))
            self.same(safe_stock(market, 1, Notes([(2, 9), (2, 3), (2, 5)])), None)
            self.same(safe_stock(market, 1, Notes([(3, 3), (0, 10 ** 30), (3, 3)])), None)
            far = Notes([(0, 10 ** 30), (10 ** 30, 10 ** 30), (10 ** 30 + 1, 10 ** 40)])
            self.same(safe_stock(market, 1, far), (0,))
            self.same(is_safe(market, 1, far, [0]), True)
            self.same(is_safe(market, 1, far.narrow(1, 10 ** 30, 10 ** 30), [1]), False)
            self.same(safe_stock(market, 2, far), (0, 1))

    def test_in_words(self):
        market = Join(3, [(0, 1), (0, 2), (1, 2), (1, 3), (2, 3)])
        wider = Notes([(1, 2), (1, 6), (0, 1), (5, 5), (1, 2)])
        self.same(unsafe_ring(market, 1, wider, (0, 2, 4)), ((0, 2), (1,)))
        self.same(safe_heights(market, 1, wider, (0, 2, 4)), None)
        for kind in (Join, Lap):
            self.same(safe_stock(kind(1, []), 0, Notes([])), ())
            self.same(is_safe(kind(1, []), 0, Notes([]), []), True)
            self.same(only_possible(kind(1, []), 0, Notes([]), []), True)
            # A gone part has a stretch, but it bars nothing.
            market = kind(1, [(0, 1), (0, 1)], gone=[1])
            self.same(is_safe(market, 1, Notes([(5, 9), (0, 0)]), [0]), True)
            self.same(only_possible(market, 1, Notes([(5, 9), (0, 0)]), [0]), True)

    def test_great_markets(self):
        told = {True: 0, False: 0}
        for seed in range(40):
            market = great_market(seed)
            chosen, demand = random_stock(seed, market)
            notes = great_notes(seed, market)
            chance = random.Random(seed)
            if seed % 2:
                # Notes at which a cheapest stock is safe, as far from the edge as can be.
                world = [chance.randint(0, 10 ** 30) for _ in range(60)]
                best = cheapest(market, demand, world)
                notes = Notes([(0, world[part]) if part in best else (world[part], 10 ** 30) for part in range(60)])
                self.same(is_safe(market, demand, notes, best), True)
            for stock in (chosen, cheapest(market, demand, notes.lows), safe_stock(market, demand, notes)):
                if stock is None:
                    continue
                safe = is_safe(market, demand, notes, stock)
                told[safe] += 1
                high = notes.high_on(stock)
                self.same(safe, price(high, stock) == price_of(market, demand, high))
                ring, heights = unsafe_ring(market, demand, notes, stock), safe_heights(market, demand, notes, stock)
                if safe:
                    self.assertIsNone(ring)
                    for world in (high, notes.lows, notes.highs, notes.low_on(stock)):
                        self.same(fits(market, demand, world, stock, heights), True)
                else:
                    self.assertIsNone(heights)
                    self.same(is_ring(market, demand, stock, *ring), True)
                    self.assertGreater(gap(notes, ring), 0)
        self.assertTrue(min(told.values()) > 20)


class AllSafe(Case):
    """Promises 48 and 51."""

    def test_all_safe_stocks(self):
        pairs = 0
        for seed, market, demand, found in random_cases(150, most_parts=5):
            notes = random_notes(seed, market, 12, 1)
            told = agreeing(notes)
            wanted = safe_ones(found, told)
            for stock in wanted[:1]:
                heights = safe_heights(market, demand, notes, stock)
                for other in found:
                    changed = set(stock) ^ set(other)
                    seen = all(notes.is_seen(part) for part in changed)
                    some = any(other in best_stocks(world, found) for world in told)
                    self.assertEqual(other in wanted, seen and some)
                    fitted = all(fit_by_words(market, demand, world, other, heights.levels) for world in told)
                    self.assertEqual(other in wanted, fitted)
                    if other in wanted:
                        pairs += stock != other
                        self.same(notes.high_on(stock), notes.high_on(other))
        self.assertGreater(pairs, 20)

    def test_same_heights_for_all_runs(self):
        checked = 0
        for seed, market, demand, found in random_cases(60, most_places=3, most_parts=5):
            notes = random_notes(seed, market, 12)
            told = agreeing(notes)
            for stock in safe_ones(found, told)[:1]:
                high = Table(market, demand, notes.high_on(stock))
                tables = [Table(market, demand, world) for world in told]
                for run in all_runs(market.size):
                    less, more = high.less(run), high.more(run)
                    lows, highs = [table.less(run) for table in tables], [table.more(run) for table in tables]
                    if None not in lows:
                        self.same(less, max(lows))
                    if None not in highs:
                        self.same(more, min(highs))
                    for number in {less, more} - {None}:
                        checked += 1
                        heights = high.between(run, number)
                        self.assertTrue(all(fits(market, demand, world, stock, heights) for world in told))
        self.assertGreater(checked, 80)

    def test_two_sizes(self):
        """Promise 57: safe stocks of two sizes, and of two demands that differ by a run."""
        checked = rings = 0
        for seed, market, demand, found in random_cases(200, most_parts=6):
            notes = random_notes(seed, market, 6, 1)
            told = agreeing(notes)
            for run in all_runs(market.size):
                more = more_by(market, demand, run, 1)
                for stock, other in itertools.product(safe_ones(found, told)[:2],
                                                      safe_ones(stocks(market, more), told)[:2]):
                    walk, moves = split_run(market, demand, run, stock, other)
                    self.same(is_walk(market, demand, stock, run, *walk), True)
                    self.two_safe(market, notes, (demand, stock), (more, other), walk, moves)
                    checked += 1
                    rings += len(moves)
                    if run == (0, market.size):
                        ways, moves = split_sizes(market, demand, 1, stock, other)
                        self.two_safe(market, notes, (demand, stock), (more, other), ways[0], moves)
        self.assertTrue(checked > 200 and rings > 5, (checked, rings))

    def two_safe(self, market, notes, before, after, walk, moves):
        for part in sum(parts_of(moves), []):
            self.same(notes.is_seen(part), True)
        for move in moves:
            self.assertEqual(price(notes.lows, move[0]), price(notes.lows, move[1]))
        self.same(is_safe(market, after[0], notes, behind(before[1], walk)), True)
        self.same(is_safe(market, before[0], notes, behind(after[1], walk[::-1])), True)


class MoreKnown(Case):
    """Promise 58: more known."""

    def test_small_markets(self):
        for seed, market, demand, found in random_cases(60, most_parts=5):
            notes = random_notes(seed, market)
            chance = random.Random(seed)
            known = notes
            for part in notes.unseen():
                low, high = notes.stretches[part]
                ends = sorted(chance.choices(range(low, high + 1), k=2))
                known = known.narrow(part, *ends) if chance.random() < 0.5 else known.ask(part, chance.choice(ends))
            for stock in found[:6]:
                if is_safe(market, demand, notes, stock):
                    self.same(is_safe(market, demand, known, stock), True)
                    heights = safe_heights(market, demand, notes, stock)
                    self.same(fits(market, demand, known.high_on(stock), stock, heights), True)
                if is_possible(market, demand, known, stock):
                    self.same(is_possible(market, demand, notes, stock), True)
                self.assertLessEqual(regret(market, demand, known, stock), regret(market, demand, notes, stock))


class OnlyPossible(Case):
    """Promise 59: the only possible stock."""

    def test_small_markets(self):
        told = {True: 0, False: 0}
        near = 0
        for seed, market, demand, found in random_cases(200, most_parts=5):
            notes = random_notes(seed, market, 12)
            worlds = agreeing(notes)
            possible = [stock for stock in found if any(stock in best_stocks(world, found) for world in worlds)]
            for stock in found[:8]:
                wanted = possible == [stock]
                self.same(only_possible(market, demand, notes, list(stock)[::-1]), wanted)
                told[wanted] += 1
                safe = is_safe(market, demand, notes, stock)
                near += safe and not wanted
                others = beside_stock(market, demand, stock)
                self.assertEqual(wanted, stock in possible and not set(others) & set(possible))
        self.assertTrue(min(told.values()) > 60 and near > 20)

    def test_edges(self):
        for kind in (Join, Lap):
            market = kind(1, [(0, 1), (0, 1)])
            for low, wanted in ((4, False), (5, False), (6, True)):
                self.same(only_possible(market, 1, Notes([(3, 5), (low, 9)]), [0]), wanted)
        self.same(only_possible(Lap(1, [(0, 1), (0, 1)]), 1, Notes([(0, 0), (0, 3)]), [0]), False)
        self.same(only_possible(Lap(1, [(0, 1), (0, 1)]), 1, Notes([(0, 0), (1, 3)]), [0]), True)
        self.same(only_possible(Lap(1, [(0, 1)]), 0, Notes([(0, 3)]), []), False)
        self.same(only_possible(Lap(2, [(0, 1), (0, 2)]), 1, Notes([(0, 0), (1, 1)]), [1]), False)
        self.same(only_possible(Lap(2, [(0, 1), (0, 2)]), 1, Notes([(1, 1), (1, 1)]), [1]), True)
        self.same(only_possible(Lap(2, [(0, 1), (0, 2)]), 1, Notes([(1, 1), (1, 1)]), [0, 1]), False)

    def test_many_parts_in_one_ring(self):
        runs = [(place, place + 1) for place in range(30)] + [(0, 30)]
        for kind in (Join, Lap):
            market = kind(30, runs)
            for price_of_all, wanted in ((29, False), (30, False), (31, True)):
                notes = Notes.seen_at([1] * 30 + [price_of_all])
                self.same(only_possible(market, 1, notes, list(range(30))), wanted)
            notes = Notes.seen_at([1] * 30 + [29])
            self.same(only_possible(market, 1, notes, [30]), True)

    def test_great_markets(self):
        told = {True: 0, False: 0}
        for seed in range(30):
            market = great_market(seed)
            _, demand = random_stock(seed, market)
            chance = random.Random(seed)
            world = [chance.randint(1, 10 ** 30) for _ in range(60)]
            stock = cheapest(market, demand, world)
            notes = Notes([(0, world[part] - 1) if part in stock else (world[part], 10 ** 31) for part in range(60)])
            if seed % 4 == 0:
                notes = Notes.seen_at([number // 10 ** 29 for number in world])
                stock = cheapest(market, demand, notes.lows)
            wanted = all(price_of(market.lose([part]), demand, notes.high_on(stock)) != price(notes.highs, stock)
                         for part in stock) and is_safe(market, demand, notes, stock)
            if market.KIND == "join":
                self.same(only_possible(market, demand, notes, stock), wanted)
                told[wanted] += 1
        self.assertTrue(min(told.values()) > 1, told)


class Wrong(Case):
    """Promises 1 and 2."""

    def markets(self):
        return [kind(2, [(0, 2), (0, 1), (1, 2), (0, 2)], gone=[3]) for kind in (Join, Lap)]

    def test_orders(self):
        notes = Notes([(0, 2), (1, 1), (0, 4), (0, 0)])
        for market in self.markets():
            for function in (is_safe, safe_heights, unsafe_ring, only_possible):
                for no_stock, place in (([1], 1), ([3], -1), ([0, 3], -1)):
                    self.order(function, (market, 1, notes, [0]), (
                        (1, [1, None], BadDemand, {"place": 1}), (3, [0, 0], BadSet, {"place": 1}),
                        (2, Notes([(0, 1)] * 3), OtherSize, {"size": 3}), (3, no_stock, NotAStock, {"place": place}),
                    ))
                self.fails(NotAStock, {"place": 0}, function, market, 9, notes, [0])
            self.order(safe_stock, (market, 1, notes), (
                (1, [1], BadDemand, {"place": -1}), (2, Notes([]), OtherSize, {"size": 0}), (1, 9, NoStock, {}),
            ))

    def test_arguments_stay(self):
        notes = Notes([(0, 2), (1, 1), (0, 4), (0, 0)])
        for market in self.markets():
            demand, stock = [1, 1], [2, 1]
            first = (is_safe(market, demand, notes, stock), unsafe_ring(market, demand, notes, stock),
                     only_possible(market, demand, notes, stock), safe_stock(market, demand, notes),
                     possible_stocks(market, demand, notes))
            self.assertEqual((demand, stock), ([1, 1], [2, 1]))
            self.same(notes.stretches, ((0, 2), (1, 1), (0, 4), (0, 0)))
            self.same(first, (is_safe(market, 1, notes, (1, 2)), unsafe_ring(market, 1, notes, (1, 2)),
                              only_possible(market, 1, notes, (1, 2)), safe_stock(market, 1, notes),
                              possible_stocks(market, (1, 1), notes)))
            self.assertTrue(is_a_stock(market, 1, stock))


if __name__ == "__main__":
    unittest.main()
