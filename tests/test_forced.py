import itertools
import random
import unittest

from keptparts.cheapest import cheapest
from keptparts.critical import critical_ends, critical_price
from keptparts.errors import (
    BadDemand, BadPart, BadSet, BadWorld, NotAgreeing, NotAStock, NotCheapest, OtherSize,
)
from keptparts.forced import forced_parts, gain, gains, lacking_ring
from keptparts.heights import Heights, fits
from keptparts.lengths import lengths_world
from keptparts.markets import Join, Lap
from keptparts.notes import Notes
from keptparts.pairs import against_ring, sort_of, with_ring
from keptparts.papers import Told, is_paper, lean_paper, paper_of
from keptparts.regrets import misfit, regret
from keptparts.verdicts import four
from support import (
    NO_INTEGERS, NO_ROWS, Case, agreeing, all_sets, best_price, best_stocks, great_notes, great_ways, loose_parts,
    price, random_cases, random_notes, ring_moves, risen,
)


def paper_cases(many, most=24, **more):
    """Markets with notes, an agreeing world, a stock that is cheapest in it, and all stocks."""
    for seed, market, demand, found in random_cases(many, **more):
        notes = random_notes(seed, market, most)
        chance = random.Random(seed)
        world = chance.choice(agreeing(notes))
        yield seed, market, demand, found, notes, world, chance.choice(best_stocks(world, found))


def shown(found, notes, world, stock, parts):
    """Whether the parts are a paper, by all agreeing worlds."""
    after = Notes([(world[part],) * 2 if part in parts else stretch for part, stretch in enumerate(notes.stretches)])
    return all(price(other, stock) == best_price(other, found) for other in agreeing(after))


def gain_by_words(notes, world, stock, part):
    low, high = notes.stretches[part]
    return high - world[part] if part in stock else world[part] - low


class Gains(Case):
    """Promise 122: gains and rings."""

    def test_gains(self):
        for seed, market, demand, found, notes, world, stock in paper_cases(60):
            rows = [gain_by_words(notes, world, stock, part) for part in range(market.many)]
            self.same([gain(notes, list(world), list(stock)[::-1], part) for part in range(market.many)], rows)
            for part in range(market.many):
                if notes.is_seen(part):
                    self.same(rows[part], 0)
            for parts in all_sets(range(market.many)):
                self.same(gains(notes, world, stock, list(parts)[::-1]), sum(rows[part] for part in parts))
        # The stock is any set of parts here.
        notes = Notes([(0, 3), (2, 10 ** 30), (4, 4)])
        self.same(gain(notes, (1, 7, 4), [0, 1, 2], 1), 10 ** 30 - 7)
        self.same(gains(notes, [1, 7, 4], [], [2, 1, 0]), 6)
        self.same(gains(Notes([]), [], [], []), 0)

    def test_rings(self):
        """A set is a paper exactly if its gains are enough for each ring."""
        told = {True: 0, False: 0}
        for seed, market, demand, found, notes, world, stock in paper_cases(100, most_parts=5):
            case = (market, demand, notes, world, stock)
            rings = ring_moves(market, demand, stock)
            for parts in all_sets(notes.unseen()):
                lacking = [(outs, ins) for outs, ins in rings
                           if price(notes.highs, outs) - price(notes.lows, ins)
                           > gains(notes, world, stock, [part for part in parts if part in outs + ins])]
                self.same(is_paper(*case, parts), not lacking)
                found_ring = lacking_ring(*case, list(parts)[::-1])
                self.same(found_ring is None, not lacking)
                if lacking:
                    self.assertIn(found_ring, lacking)
                told[not lacking] += 1
        self.assertTrue(min(told.values()) > 50, told)

    def test_fewest(self):
        """If no unseen part is in two rings that are unsafe, each of these needs a part of its own."""
        several = 0
        for seed, market, demand, found, notes, world, stock in paper_cases(120, most_parts=5):
            unsafe = [(outs, ins) for outs, ins in ring_moves(market, demand, stock)
                      if price(notes.highs, outs) > price(notes.lows, ins)]
            parts = [part for outs, ins in unsafe for part in outs + ins if not notes.is_seen(part)]
            told = Told(market, demand, notes, world, stock)
            if len(parts) == len(set(parts)):
                several += len(unsafe) > 0
                self.assertGreaterEqual(told.fewest, len(unsafe))
        self.assertGreater(several, 10)

    def test_regrets_and_misfits(self):
        for seed, market, demand, found, notes, world, stock in paper_cases(80):
            case = (market, demand, notes, world, stock)
            before = regret(market, demand, notes, stock)
            for parts in all_sets(notes.unseen()):
                after = regret(market, demand, notes.after(parts, world), stock)
                self.assertLessEqual(before - after, gains(notes, world, stock, parts))
                if is_paper(*case, parts):
                    self.assertGreaterEqual(gains(notes, world, stock, parts), before)
            chance = random.Random(seed)
            for _ in range(12):
                heights = Heights(sorted(chance.randint(-3, 5) for _ in range(market.size + 1)))
                if fits(market, demand, world, stock, heights):
                    needed = paper_of(*case, heights)
                    for parts in all_sets(notes.unseen()):
                        if set(needed) <= set(parts):
                            self.assertLessEqual(misfit(market, demand, notes, stock, heights),
                                                 gains(notes, world, stock, parts))


class Forced(Case):
    """Promise 123: forced parts."""

    def test_small_markets(self):
        some = short = alone = 0
        for seed, market, demand, found, notes, world, stock in paper_cases(150):
            case = (market, demand, notes, world, stock)
            papers = [parts for parts in all_sets(notes.unseen()) if shown(found, notes, world, stock, parts)]
            wanted = tuple(part for part in notes.unseen() if all(part in parts for parts in papers))
            self.same(forced_parts(market, demand, notes, list(world), list(stock)[::-1]), wanted)
            some += bool(wanted)
            short += wanted not in papers
            for part in notes.unseen():
                rest = [other for other in notes.unseen() if other != part]
                self.same(is_paper(*case, rest), part not in wanted)
            for part in range(market.many):
                if part in market.gone or part not in loose_parts(market, found):
                    self.assertNotIn(part, wanted)
                else:
                    told = critical_price(market, demand, world, part)
                    low, high = notes.stretches[part]
                    self.same(part in wanted, high > told if part in stock else low < told)
            rings = [set(outs + ins) & set(notes.unseen()) for outs, ins in ring_moves(market, demand, stock)]
            if all(len(ring) < 2 for ring in rings):
                alone += bool(wanted)
                self.assertIn(wanted, papers)
                self.same(lean_paper(*case, notes.unseen()), wanted)
        self.assertTrue(some > 20 and short > 3 and alone > 3, (some, short, alone))

    def test_in_words(self):
        market = Join(2, [(0, 1), (1, 2), (0, 2), (0, 2)], gone=[3])
        notes = Notes([(0, 2), (0, 2), (1, 1), (0, 9)])
        case = (market, 1, notes, (0, 0, 1, 5), [1, 0])
        self.same(forced_parts(*case), (0, 1))
        self.same(lacking_ring(*case, [0]), ((0, 1), (2,)))
        self.same(lacking_ring(*case, [3, 0]), ((0, 1), (2,)))
        self.same(lacking_ring(*case, [0, 1]), None)
        # A part whose run cannot be covered otherwise is never forced.
        firm = Join(2, [(0, 1), (1, 2), (1, 2)])
        self.same(forced_parts(firm, 1, Notes([(0, 99), (0, 3), (2, 9)]), (50, 1, 4), (0, 1)), ())
        self.same(forced_parts(firm, 1, Notes([(0, 99), (0, 8), (2, 9)]), (50, 1, 4), (0, 1)), (1,))
        for kind in (Join, Lap):
            self.same(forced_parts(kind(1, []), 0, Notes([]), (), ()), ())

    def test_great_markets(self):
        some = 0
        for seed in range(6):
            market = great_ways(seed, 6)
            notes = great_notes(seed, market)
            chance = random.Random(seed)
            world = tuple(chance.randint(low, high) for low, high in notes.stretches)
            stock = cheapest(market, 2, world)
            case = (market, 2, notes, world, stock)
            told = forced_parts(*case)
            some += bool(told)
            for part in notes.unseen():
                rest = [other for other in notes.unseen() if other != part]
                self.same(is_paper(*case, rest), part not in told)
            ring = lacking_ring(*case, [])
            if ring is not None:
                self.assertGreater(price(notes.highs, ring[0]), price(notes.lows, ring[1]))
                self.assertTrue(set(ring[0]) <= set(stock) and not set(ring[1]) & set(stock))
        self.assertGreater(some, 0)


class NothingChanged(Case):
    """Promise 125: asks that change nothing."""

    def test_apart(self):
        apart = 0
        for seed, market, demand, found in random_cases(120, kind=Join, most_parts=7):
            notes = random_notes(seed, market, 12)
            loose = loose_parts(market, found)
            for part, other in itertools.permutations(market.there(), 2):
                if part not in loose or sort_of(market, demand, part, other) != "apart":
                    continue
                before = (critical_ends(market, demand, notes, part), four(market, demand, notes, part))
                low, high = notes.stretches[other]
                for asked in range(low, high + 1):
                    apart += low < high
                    after = notes.ask(other, asked)
                    self.same((critical_ends(market, demand, after, part), four(market, demand, after, part)), before)
        self.assertGreater(apart, 100)

    def test_not_apart(self):
        checked = 0
        for seed, market, demand, found in random_cases(60, kind=Join, most_parts=6):
            for part, other in itertools.permutations(loose_parts(market, found), 2):
                told = with_ring(market, demand, part, other) or against_ring(market, demand, part, other)
                if told is None:
                    self.same(sort_of(market, demand, part, other), "apart")
                    continue
                checked += 1
                world = lengths_world(market, *told)
                dearer = risen(world, other)
                notes = Notes(list(zip(world, dearer)))
                self.same(notes.unseen(), (other,))
                ends = critical_ends(market, demand, notes, part)
                self.assertLess(ends[0], ends[1])
                for asked in (world[other], dearer[other]):
                    after = critical_ends(market, demand, notes.ask(other, asked), part)
                    self.same(after[0], after[1])
        self.assertGreater(checked, 60)


class Wrong(Case):
    """Promises 1 and 2."""

    def test_forced_parts(self):
        for kind in (Join, Lap):
            market = kind(2, [(0, 1), (1, 2), (0, 2), (0, 2)], gone=[3])
            notes = Notes([(0, 2), (0, 2), (3, 3), (0, 1)])
            faults = [(1, "1", BadDemand, {"place": -1}), (3, (0, 0, -1, 0), BadWorld, {"place": 2}),
                      (4, None, BadSet, {"place": -1}), (2, Notes.unknown(5, 1), OtherSize, {"size": 5}),
                      (3, (0, 0, 3, 2), NotAgreeing, {"part": 3}), (4, [3], NotAStock, {"place": -1})]
            case = (market, 1, notes, (0, 1, 3, 0), (0, 1))
            self.order(forced_parts, case, faults)
            self.order(forced_parts, case, faults[-2:-1] + [(4, [2], NotCheapest, {"outs": (2,), "ins": (0, 1)})])

    def test_gains(self):
        notes = Notes([(0, 3), (2, 9), (4, 4)])
        for world in NO_ROWS + ((1,), [0, 2, 4, 4]):
            self.fails(BadWorld, {"place": -1}, gain, notes, world, [], 0)
            self.fails(BadWorld, {"place": -1}, gains, notes, world, [], [0])
        for value in NO_INTEGERS + (-1, 3):
            self.fails(BadPart, {"part": value}, gain, notes, (0, 2, 4), [], value)
            self.fails(BadSet, {"place": 0}, gains, notes, (0, 2, 4), [], [value])
            self.fails(BadSet, {"place": 0}, gain, notes, (0, 2, 4), [value], 0)
        world = (1, (0, 2, -1), BadWorld, {"place": 2})
        stock = (2, [1, 1], BadSet, {"place": 1})
        far = (1, (0, 2, 5), NotAgreeing, {"part": 2})
        self.order(gain, (notes, (0, 2, 4), [], 1), (world, stock, (3, 3, BadPart, {"part": 3}), far))
        self.order(gains, (notes, (0, 2, 4), [], [1]), (world, stock, (3, 3, BadSet, {"place": -1}), far))
        self.fails(NotAgreeing, {"part": 0}, gain, notes, (4, 1, 4), [], 1)

    def test_arguments_stay(self):
        market, notes = Join(1, [(0, 1), (0, 1)]), Notes([(2, 6), (3, 9)])
        demand, world, stock, parts = [1], [2, 9], [0], [1]
        first = (forced_parts(market, demand, notes, world, stock), gains(notes, world, stock, parts),
                 lacking_ring(market, demand, notes, world, stock, []))
        self.assertEqual((demand, world, stock, parts, notes.stretches), ([1], [2, 9], [0], [1], ((2, 6), (3, 9))))
        self.same(first, (forced_parts(market, 1, notes, (2, 9), (0,)), gains(notes, (2, 9), (0,), (1,)),
                          lacking_ring(market, (1,), notes, (2, 9), (0,), ())))
        self.same(first, ((), 6, ((0,), (1,))))


if __name__ == "__main__":
    unittest.main()
