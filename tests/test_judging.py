import unittest

from keptparts.critical import critical_ends
from keptparts.errors import (
    BadDemand, BadPart, IsDead, IsFirm, IsGone, Mixed, NoStock, NotJoin, OtherSize, TooMany,
)
from keptparts.judging import judge_worlds, steady
from keptparts.lengths import lengths_world
from keptparts.markets import Join, Lap
from keptparts.notes import Notes
from keptparts.pairs import against_ring, mixed_partner, with_ring
from keptparts.safety import is_safe
from support import (
    NO_INTEGERS, Case, agreeing, loose_parts, random_cases, random_notes, risen, sorted_pairs, stocks, threshold,
)

SIX = [(0, 1), (1, 2), (2, 3), (0, 2), (1, 3), (0, 3)]


class Judging(Case):
    """Promise 72: judged ahead."""

    def test_small_markets(self):
        wide = safe = 0
        for seed, market, demand, found in random_cases(150, kind=Join, most_parts=7):
            notes = random_notes(seed, market, 60)
            together, opposed = sorted_pairs(market, demand, found)
            told = agreeing(notes)
            for part in loose_parts(market, found):
                if mixed_partner(market, demand, part) is not None:
                    continue
                worlds = judge_worlds(market, demand, notes, part)
                allies = [other for other in market.there() if (part, other) in together]
                rivals = [other for other in market.there() if (part, other) in opposed]
                self.same(worlds, (notes.high_on(allies), notes.high_on(rivals)))
                rows = [threshold(world, found, part) for world in told]
                ends = tuple(threshold(world, found, part) for world in worlds)
                self.same(ends, (min(rows), max(rows)))
                self.same(ends, critical_ends(market, demand, notes, part))
                wide += ends[0] < ends[1]
                for stock in [stock for stock in found if is_safe(market, demand, notes, stock)][:1]:
                    safe += 1
                    high, low = (threshold(world, found, part)
                                 for world in (notes.high_on(stock), notes.low_on(stock)))
                    self.same((high, low) if part in stock else (low, high), ends)
        self.assertTrue(wide > 60 and safe > 40, (wide, safe))

    def test_mixed_parts(self):
        market = Join(3, SIX)
        found = stocks(market, 1)
        for stretch, mixed in (((2, 5), True), ((3, 3), False)):
            stretches = [(1, 4)] * 6
            stretches[2] = stretch
            notes = Notes(stretches)
            if mixed:
                self.fails(Mixed, {"part": 2}, judge_worlds, market, 1, notes, 0)
                continue
            worlds = judge_worlds(market, 1, notes, 0)
            rows = [threshold(world, found, 0) for world in agreeing(notes)]
            self.same(tuple(threshold(world, found, 0) for world in worlds), (min(rows), max(rows)))
        self.fails(Mixed, {"part": 0}, judge_worlds, market, 1, Notes.unknown(6, 9), 2)
        # The least unseen mixed part is told, not the least mixed one.
        larger = Join(3, SIX + [(2, 3)])
        self.fails(Mixed, {"part": 2}, judge_worlds, larger, 1, Notes.unknown(7, 9), 0)
        self.fails(Mixed, {"part": 6}, judge_worlds, larger, 1, Notes.unknown(7, 9).ask(2, 4), 0)
        seen = Notes.unknown(7, 9).ask(2, 4).ask(6, 0)
        self.same([threshold(world, stocks(larger, 1), 0) for world in judge_worlds(larger, 1, seen, 0)],
                  list(critical_ends(larger, 1, seen, 0)))

    def test_both_ways(self):
        """A mixed part makes the critical price fall in one world and rise in another."""
        market = Join(3, SIX)
        found = stocks(market, 1)
        for told, by in ((with_ring(market, 1, 0, 2), -1), (against_ring(market, 1, 0, 2), 1)):
            world = lengths_world(market, *told)
            self.same(threshold(risen(world, 2), found, 0) - threshold(world, found, 0), by)

    def test_gone_parts(self):
        market = Join(1, [(0, 1), (0, 1), (0, 1)], gone=[2])
        notes = Notes([(1, 5), (2, 10 ** 30), (3, 8)])
        self.same(judge_worlds(market, 1, notes, 0), ((1, 2, 3), (1, 10 ** 30, 3)))


class Steady(Case):
    """Promise 73: markets in which no two parts are mixed."""

    def test_small_markets(self):
        told = {True: 0, False: 0}
        for seed, market, demand, found in random_cases(120, kind=Join, most_parts=7):
            together, opposed = sorted_pairs(market, demand, found)
            wanted = not together & opposed
            self.same(steady(market, demand), wanted)
            told[wanted] += 1
        self.assertGreater(told[True], 60)
        market = Join(3, SIX)
        self.same([steady(market, demand) for demand in range(4)], [True, False, False, True])
        self.same([steady(market - [part], 1) for part in range(6)], [True] * 6)
        self.same([steady(market - [part], 2) for part in range(6)], [True] * 6)

    def test_ten_parts(self):
        market = Join(3, SIX * 2, gone=[7])
        self.fails(TooMany, {"number": 11}, steady, market, 1)
        self.fails(NoStock, {}, steady, market, 9)
        self.same(steady(market - [0], 1), False)
        for part in (0, 2):
            self.fails(TooMany, {"number": 11}, judge_worlds, market, 1, Notes.unknown(12, 1), part)
        self.same(steady(Join(1, []), 0), True)


class Wrong(Case):
    """Promises 1 and 2."""

    def test_orders(self):
        runs = [(0, 2), (0, 1), (1, 2), (0, 2)]
        market, lap = Join(2, runs, gone=[3]), Lap(2, runs, gone=[3])
        notes = Notes([(0, 2), (1, 1), (2, 4), (0, 0)])
        kind = (0, lap, NotJoin, {})
        demand = (1, [1, None], BadDemand, {"place": 1})
        for value, error in ((3, IsGone), (4, BadPart), (True, BadPart)):
            self.order(judge_worlds, (market, 1, notes, 1), (
                kind, demand, (3, value, error, {"part": value}), (2, Notes.unknown(3, 1), OtherSize, {"size": 3}),
                (1, 9, NoStock, {}),
            ))
        self.order(judge_worlds, (market, 1, notes, 1), (
            (2, Notes.unknown(3, 1), OtherSize, {"size": 3}), (1, [2, 1], IsFirm, {"part": 1}),
        ))
        self.order(judge_worlds, (market, 1, notes, 2), (
            (2, Notes.unknown(3, 1), OtherSize, {"size": 3}), (1, [2, 1], IsDead, {"part": 2}),
        ))
        self.order(steady, (market, 1), (kind, demand, (1, 9, NoStock, {})))
        for part in NO_INTEGERS + (-1, 4):
            self.fails(BadPart, {"part": part}, judge_worlds, market, 9, notes, part)
        many = Join(1, [(0, 1)] * 11)
        self.fails(IsFirm, {"part": 2}, judge_worlds, many, 11, Notes.unknown(11, 1), 2)
        self.fails(IsDead, {"part": 2}, judge_worlds, many, 0, Notes.unknown(11, 1), 2)

    def test_arguments_stay(self):
        market, notes = Join(2, [(0, 2), (0, 1), (1, 2)]), Notes([(0, 2), (1, 1), (2, 4)])
        demand = [1, 1]
        first = (judge_worlds(market, demand, notes, 1), steady(market, demand))
        self.assertEqual((demand, notes.stretches), ([1, 1], ((0, 2), (1, 1), (2, 4))))
        self.same(first, (judge_worlds(market, 1, notes, 1), steady(market, 1)))


if __name__ == "__main__":
    unittest.main()
