import random
import unittest

from keptparts.cheapest import cheapest
from keptparts.cuts import state_of
from keptparts.errors import (
    BadDemand, BadPart, BadSet, BadWorld, IsGone, NoStock, NotAStock, NotSafe, OtherSize, TooMany,
)
from keptparts.markets import Join, Lap
from keptparts.notes import Notes
from keptparts.rings import is_ring
from keptparts.safety import is_safe, safe_heights
from keptparts.tables import Table
from keptparts.verdicts import four, safe_four, verdict_in
from support import (
    NO_INTEGERS, NO_ROWS, Case, agreeing, best_stocks, covers, great_market, loose_parts, price, random_cases,
    random_notes, random_stock, random_world, row_of, threshold,
)


def four_by_words(notes, found, part):
    """The four verdicts, from all cheapest stocks of all agreeing worlds."""
    rows = [[part in stock for stock in best_stocks(world, found)] for world in agreeing(notes)]
    return (all(all(row) for row in rows), all(any(row) for row in rows),
            any(all(row) for row in rows), any(any(row) for row in rows))


class InOneWorld(Case):
    """Promise 61: verdicts in one world."""

    def test_small_markets(self):
        told = {}
        for seed, market, demand, found in random_cases(150):
            world = random_world(seed, market)
            best = best_stocks(world, found)
            for part in market.there():
                has = [part in stock for stock in best]
                wanted = "all" if all(has) else "some" if any(has) else "none"
                self.same(verdict_in(market, demand, list(world), part), wanted)
                told[wanted] = told.get(wanted, 0) + 1
        self.assertTrue(len(told) == 3 and min(told.values()) > 30)

    def test_great_markets(self):
        for seed in range(4):
            market = great_market(seed)
            _, demand = random_stock(seed, market)
            world = random_world(seed, market, 10 ** 30)
            table = Table(market, demand, world)
            for part in market.there()[::5]:
                told = verdict_in(market, demand, world, part)
                self.same(told, "all" if table.stays(part) else "some" if table.enters(part) else "none")

    def test_firm_and_dead(self):
        market = Join(2, [(0, 2), (0, 1)])
        self.same([verdict_in(market, 1, (9, 0), part) for part in (0, 1)], ["all", "none"])
        market = Lap(2, [(0, 2), (0, 1)])
        self.same([verdict_in(market, 1, (9, 0), part) for part in (0, 1)], ["all", "some"])


class Four(Case):
    """Promise 64."""

    def test_small_markets(self):
        told = {}
        for seed, market, demand, found in random_cases(150):
            notes = random_notes(seed, market, 40)
            for part in market.there():
                wanted = four_by_words(notes, found, part)
                self.same(four(market, demand, notes, part), wanted)
                told[wanted] = told.get(wanted, 0) + 1
                state = state_of(market, demand, part)
                if state != "loose":
                    self.same(wanted, (state == "firm",) * 4)
        self.assertTrue(len(told) >= 5 and min(told.values()) > 2, told)

    def test_edges(self):
        for kind in (Join, Lap):
            market = kind(1, [(0, 1), (0, 1), (0, 1)], gone=[2])
            for high, wanted in ((4, (True,) * 4), (5, (False, True, True, True)), (6, (False, False, True, True))):
                self.same(four(market, 1, Notes([(2, high), (5, 7), (0, 0)]), 0), wanted)
            for low, wanted in ((6, (False, False, True, True)), (7, (False, False, False, True)),
                                (8, (False, False, False, False))):
                self.same(four(market, 1, Notes([(low, 9), (5, 7), (0, 0)]), 0), wanted)

    def test_twelve_parts(self):
        for kind in (Join, Lap):
            market = kind(1, [(0, 1)] * 14, gone=[3])
            notes = Notes([(part, part + 1) for part in range(14)])
            self.fails(TooMany, {"number": 13}, four, market, 1, notes, 0)
            self.fails(TooMany, {"number": 13}, four, market, 13, notes, 0)
            self.fails(NoStock, {}, four, market, 14, notes, 0)
            fewer = market - [13]
            self.same(four(fewer, 1, notes, 0), (False, True, True, True))
            self.same(four(fewer, 12, notes, 0), (True,) * 4)
            self.same(four(fewer, 2, notes, 12), (False,) * 4)
        self.fails(TooMany, {"number": 13}, four, Join(1, [(0, 1)] * 13), 0, Notes.unknown(13, 1), 5)


class BesideSafe(Case):
    """Promise 65: beside a safe stock."""

    def test_small_markets(self):
        told = {}
        over = 0
        for seed, market, demand, found in random_cases(250):
            notes = random_notes(seed, market, 40)
            for stock in [stock for stock in found if is_safe(market, demand, notes, stock)][:2]:
                over += any(a > b for a, b in zip(covers(market, stock), row_of(market, demand)))
                loose = loose_parts(market, found)
                for part in market.there():
                    wanted = four_by_words(notes, found, part)
                    self.same(safe_four(market, demand, notes, list(stock)[::-1], part), wanted)
                    told[wanted] = told.get(wanted, 0) + 1
                    if part not in loose:
                        continue
                    rows = [threshold(world, found, part) for world in agreeing(notes)]
                    ends = [threshold(world, found, part)
                            for world in (notes.high_on(stock), notes.low_on(stock))]
                    self.assertEqual(ends if part in stock else ends[::-1], [min(rows), max(rows)])
        self.assertTrue(len(told) >= 4 and over > 10, (told, over))

    def test_heights(self):
        """What heights that fit in every agreeing world tell of a part."""
        checked = 0
        for seed, market, demand, found in random_cases(150):
            notes = random_notes(seed, market, 40)
            for stock in [stock for stock in found if is_safe(market, demand, notes, stock)][:1]:
                table = Table(market, demand, notes.high_on(stock))
                for part in loose_parts(market, found):
                    run = market.runs[part]
                    told = safe_four(market, demand, notes, stock, part)
                    checked += 1
                    if part in stock:
                        self.same(told[0], table.more(run) > notes.highs[part])
                        self.same(table.between(run, table.more(run)).worth(run) > notes.highs[part], told[0])
                    else:
                        self.same(not told[3], table.less(run) < notes.lows[part])
        self.assertGreater(checked, 100)

    def test_not_safe(self):
        rings = 0
        for seed, market, demand, found in random_cases(80):
            notes = random_notes(seed, market)
            for stock in found[:4]:
                if market.there() and not is_safe(market, demand, notes, stock):
                    with self.assertRaises(NotSafe) as caught:
                        safe_four(market, demand, notes, stock, market.there()[0])
                    outs, ins = caught.exception.outs, caught.exception.ins
                    self.same(is_ring(market, demand, stock, outs, ins), True)
                    self.assertGreater(price(notes.highs, outs), price(notes.lows, ins))
                    rings += 1
        self.assertGreater(rings, 40)

    def test_great_markets(self):
        told = {}
        for seed in range(8):
            market = great_market(seed)
            _, demand = random_stock(seed, market)
            chance = random.Random(seed)
            world = [chance.randint(0, 10 ** 30) for _ in range(60)]
            stock = cheapest(market, demand, world)
            notes = Notes([
                (max(0, number - chance.randint(0, 10 ** 29)), number) if part in stock
                else (number, number + chance.randint(0, 10 ** 29)) for part, number in enumerate(world)
            ])
            heights = safe_heights(market, demand, notes, stock)
            for part in market.there()[::4]:
                verdicts = safe_four(market, demand, notes, stock, part)
                told[verdicts] = told.get(verdicts, 0) + 1
                # The stock itself is cheapest everywhere.
                if part in stock:
                    self.assertTrue(verdicts[1] and verdicts[3])
                else:
                    self.assertFalse(verdicts[0] or verdicts[2])
                worth = heights.worth(market.runs[part])
                if worth > notes.highs[part]:
                    self.same(verdicts, (True,) * 4)
                if worth < notes.lows[part]:
                    self.same(verdicts, (False,) * 4)
        self.assertGreater(len(told), 1)

    def test_many_parts(self):
        market = Join(1, [(0, 1)] * 60)
        notes = Notes([(part, part + 1) for part in range(60)])
        self.same(safe_four(market, 1, notes, [0], 0), (False, True, True, True))
        self.same(safe_four(market, 1, notes, [0], 1), (False, False, False, True))
        self.same(safe_four(market, 1, notes, [0], 2), (False,) * 4)
        self.same(safe_four(market, 60, notes, list(range(60)), 2), (True,) * 4)


class Wrong(Case):
    """Promises 1 and 2."""

    def markets(self):
        return [kind(2, [(0, 2), (0, 1), (1, 2), (0, 2)], gone=[3]) for kind in (Join, Lap)]

    def test_orders(self):
        notes = Notes([(0, 2), (1, 1), (2, 4), (0, 0)])
        demand = (1, [1, None], BadDemand, {"place": 1})
        size = (2, Notes([(0, 1)] * 3), OtherSize, {"size": 3})
        none = (1, 9, NoStock, {})
        for market in self.markets():
            for value, error in ((3, IsGone), (4, BadPart), (False, BadPart), (None, BadPart)):
                part = (3, value, error, {"part": value})
                self.order(verdict_in, (market, 1, (1, 2, 3, 4), 1), (
                    demand, (2, [1, 2, 3], BadWorld, {"place": -1}), part, none,
                ))
                self.order(four, (market, 1, notes, 1), (demand, part, size, none))
                last = (4, value, error, {"part": value})
                for no_stock, place in (([1], 1), ([3], -1)):
                    self.order(safe_four, (market, 1, notes, [0], 1), (
                        demand, (3, [0, 0], BadSet, {"place": 1}), last, size,
                        (3, no_stock, NotAStock, {"place": place}),
                    ))
            self.fails(NotAStock, {"place": 0}, safe_four, market, 1, notes, [2], 0)
        market = self.markets()[0]
        self.fails(NotSafe, {"outs": (1, 2), "ins": (0,)}, safe_four, market, 1, notes, [1, 2], 0)
        self.fails(NotSafe, {"outs": (0,), "ins": (1, 2)}, safe_four, market, 1, Notes.unknown(4, 1), [0], 0)
        self.fails(NotAStock, {"place": 0}, safe_four, market, 1, notes, [2], 0)

    def test_wrong_values(self):
        notes = Notes.unknown(4, 3)
        for market in self.markets():
            for part in NO_INTEGERS + (-1, 4):
                self.fails(BadPart, {"part": part}, verdict_in, market, 9, (1, 2, 3, 4), part)
                self.fails(BadPart, {"part": part}, four, market, 9, notes, part)
                self.fails(BadPart, {"part": part}, safe_four, market, 9, notes, [0], part)
            for wrong in NO_ROWS:
                self.fails(BadWorld, {"place": -1}, verdict_in, market, 9, wrong, 9)
                self.fails(BadSet, {"place": -1}, safe_four, market, 9, notes, wrong, 9)

    def test_arguments_stay(self):
        notes = Notes([(0, 2), (1, 1), (2, 4), (0, 0)])
        for market in self.markets():
            demand, world, stock = [1, 1], [3, 1, 1, 0], [0]
            first = (verdict_in(market, demand, world, 0), four(market, demand, notes, 0),
                     safe_four(market, demand, notes, stock, 1))
            self.assertEqual((demand, world, stock), ([1, 1], [3, 1, 1, 0], [0]))
            self.same(first, (verdict_in(market, 1, (3, 1, 1, 0), 0), four(market, 1, notes, 0),
                              safe_four(market, 1, notes, (0,), 1)))


if __name__ == "__main__":
    unittest.main()
