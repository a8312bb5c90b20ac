import random
import unittest

from keptparts.cheapest import price_of
from keptparts.critical import Judge, critical_ends, critical_price, end_worlds
from keptparts.cuts import state_of
from keptparts.errors import (
    BadDemand, BadPart, BadWorld, IsDead, IsFirm, IsGone, NoStock, OtherSize, TooMany,
)
from keptparts.markets import Join, Lap
from keptparts.notes import Notes
from keptparts.tables import Table
from support import (
    NO_INTEGERS, NO_ROWS, Case, agreeing, best_price, best_stocks, great_market, loose_parts, more_by, random_cases,
    random_notes, random_stock, random_world, threshold,
)


class Prices(Case):
    """Promises 61 and 62: critical prices."""

    def test_small_markets(self):
        checked = below = over = 0
        for seed, market, demand, found in random_cases(120):
            world = random_world(seed, market)
            best = best_stocks(world, found)
            table = Table(market, demand, world)
            for part in loose_parts(market, found):
                checked += 1
                wanted = threshold(world, found, part)
                told = critical_price(market, demand, list(world), part)
                self.same(told, wanted)
                below += wanted < 0
                if market.KIND == "lap":
                    self.assertGreaterEqual(told, 0)
                self.assertEqual(world[part] <= told, any(part in stock for stock in best))
                self.assertEqual(world[part] < told, all(part in stock for stock in best))
                other = world[:part] + (world[part] + 7,) + world[part + 1:]
                self.same(critical_price(market, demand, other, part), told)
                run = market.runs[part]
                if table.enters(part):
                    self.same(table.more(run), told)
                if not table.stays(part):
                    self.same(table.less(run), told)
                if table.enters(part) and not table.stays(part):
                    self.same(told, world[part])
                rest = market.lose([part])
                self.same(Table(rest, demand, world).less(run), told)
                less = price_of(rest, more_by(market, demand, run, -1), world)
                self.same(price_of(rest, demand, world) - less, told)
                self.assertEqual(best_price(world, found), min(price_of(rest, demand, world), less + world[part]))
                over += market.KIND == "lap" and len(set(best)) > 1
        self.assertTrue(checked > 150 and below > 0 and over > 10, (checked, below, over))

    def test_judge(self):
        for seed, market, demand, found in random_cases(60):
            for part in loose_parts(market, found):
                judge = Judge(market, demand, part)
                self.assertIs(judge.market, market)
                self.same(judge.demand, more_by(market, demand, (0, 1), 0))
                self.same(judge.part, part)
                for number in range(3):
                    world = random_world(seed + number, market)
                    self.same(judge(list(world)), threshold(world, found, part))

    def test_firm_and_dead(self):
        firm = dead = 0
        for seed, market, demand, found in random_cases(100):
            world = random_world(seed, market)
            notes = random_notes(seed, market)
            for part in range(market.many):
                state = "gone" if part in market.gone else state_of(market, demand, part)
                for error, word in ((IsFirm, "firm"), (IsDead, "dead"), (IsGone, "gone")):
                    if state == word:
                        self.fails(error, {"part": part}, critical_price, market, demand, world, part)
                        self.fails(error, {"part": part}, Judge, market, demand, part)
                        self.fails(error, {"part": part}, critical_ends, market, demand, notes, part)
                        self.fails(error, {"part": part}, end_worlds, market, demand, notes, part)
                        firm += word == "firm"
                        dead += word == "dead"
        self.assertTrue(firm > 20 and dead > 20)

    def test_great_markets(self):
        checked = 0
        for seed in range(6):
            market = great_market(seed)
            _, demand = random_stock(seed, market)
            world = random_world(seed, market, 10 ** 30)
            for part in market.there()[::6]:
                if state_of(market, demand, part) == "loose":
                    checked += 1
                    rest = market.lose([part])
                    less = price_of(rest, more_by(market, demand, market.runs[part], -1), world)
                    wanted = price_of(rest, demand, world) - less
                    self.same(critical_price(market, demand, world, part), wanted)
                    self.same(Judge(market, demand, part)(world), wanted)
        self.assertGreater(checked, 10)


class Ends(Case):
    """Promise 63: the ends of all critical prices."""

    def test_small_markets(self):
        wide = alone = 0
        for seed, market, demand, found in random_cases(120, most_parts=6):
            notes = random_notes(seed, market, 60)
            told = agreeing(notes)
            for part in loose_parts(market, found):
                rows = [threshold(world, found, part) for world in told]
                ends = critical_ends(market, demand, notes, part)
                self.same(ends, (min(rows), max(rows)))
                self.assertEqual(sorted(set(rows)), list(range(ends[0], ends[1] + 1)))
                wide += ends[0] < ends[1]
                alone += ends[0] == ends[1]
                worlds = end_worlds(market, demand, notes, part)
                self.assertIs(type(worlds), tuple)
                for world, end in zip(worlds, ends):
                    self.assertIn(world, told)
                    self.assertEqual(threshold(world, found, part), end)
        self.assertTrue(wide > 80 and alone > 40)

    def test_many_equal_runs(self):
        for kind in (Join, Lap):
            market = kind(2, [(0, 1)] * 4 + [(1, 2)] * 3 + [(0, 2)] * 4 + [(0, 1)], gone=[11])
            notes = Notes([(part, part + 3) for part in range(12)])
            chance = random.Random(5)
            for demand in (1, 2, [3, 2]):
                for part in (0, 5, 8):
                    bottom, top = critical_ends(market, demand, notes, part)
                    worlds = end_worlds(market, demand, notes, part)
                    judge = Judge(market, demand, part)
                    self.same((judge(worlds[0]), judge(worlds[1])), (bottom, top))
                    for _ in range(60):
                        world = [chance.choice(stretch) for stretch in notes.stretches]
                        self.assertTrue(bottom <= judge(world) <= top)

    def test_far_ends(self):
        far = 10 ** 30
        for kind in (Join, Lap):
            market = kind(1, [(0, 1)] * 3)
            notes = Notes([(0, 5), (7, far), (far, far ** 2)])
            self.same(critical_ends(market, 1, notes, 0), (7, far))
            self.same(critical_ends(market, 1, notes, 2), (0, 5))
            self.same(critical_ends(market, 2, notes, 0), (far, far ** 2))
        market = Join(2, [(0, 1), (1, 2), (0, 2)])
        self.same(critical_ends(market, 1, Notes([(0, 5), (7, far), (0, 3)]), 0), (-far, -4))
        market = Lap(2, [(0, 1), (1, 2), (0, 2)])
        self.same(critical_ends(market, 1, Notes([(0, 5), (7, far), (0, 3)]), 0), (0, 0))

    def test_twelve_parts(self):
        for kind in (Join, Lap):
            market = kind(1, [(0, 1)] * 14, gone=[3])
            notes = Notes([(part, part + 1) for part in range(14)])
            for function in (critical_ends, end_worlds):
                self.fails(TooMany, {"number": 13}, function, market, 1, notes, 5)
                self.fails(IsFirm, {"part": 5}, function, market, 13, notes, 5)
            fewer = market - [13]
            self.same(critical_ends(fewer, 1, notes, 0), (1, 2))
            self.same(critical_ends(fewer, 2, notes, 12), (1, 2))
            self.same(critical_price(market, 1, list(range(14)), 5), 0)
            self.same(Judge(market, 1, 0)(tuple(range(14))), 1)
        self.fails(IsDead, {"part": 5}, critical_ends, Join(1, [(0, 1)] * 13), 0, Notes.unknown(13, 1), 5)


class Wrong(Case):
    """Promises 1 and 2."""

    def markets(self):
        return [kind(2, [(0, 2), (0, 1), (1, 2), (0, 2)], gone=[3]) for kind in (Join, Lap)]

    def test_orders(self):
        notes = Notes([(0, 2), (1, 1), (0, 4), (0, 0)])
        demand = (1, [1, None], BadDemand, {"place": 1})
        none = (1, 9, NoStock, {})
        size = (2, Notes([(0, 1)] * 3), OtherSize, {"size": 3})
        for market in self.markets():
            for value, error in ((3, IsGone), (4, BadPart), (True, BadPart), ("0", BadPart)):
                part = (3, value, error, {"part": value})
                self.order(critical_price, (market, 1, (1, 2, 3, 4), 1), (
                    demand, (2, [1, 2, 3], BadWorld, {"place": -1}), part, none,
                ))
                for function in (critical_ends, end_worlds):
                    self.order(function, (market, 1, notes, 1), (demand, part, size, none))
                self.order(Judge, (market, 1, 1), (demand, (2, value, error, {"part": value}), none))
            self.fails(NoStock, {}, critical_ends, market, 3, notes, 1)
        join = self.markets()[0]
        self.fails(IsFirm, {"part": 1}, critical_price, join, [2, 1], (1, 2, 3, 4), 1)
        self.fails(IsDead, {"part": 2}, critical_price, join, [2, 1], (1, 2, 3, 4), 2)
        self.fails(OtherSize, {"size": 3}, critical_ends, join, [2, 1], Notes.unknown(3, 1), 1)

    def test_wrong_values(self):
        notes = Notes([(0, 2), (1, 1), (0, 4), (0, 0)])
        for market in self.markets():
            for part in NO_INTEGERS + (-1, 4):
                self.fails(BadPart, {"part": part}, critical_price, market, 9, (1, 2, 3, 4), part)
                self.fails(BadPart, {"part": part}, Judge, market, 9, part)
                self.fails(BadPart, {"part": part}, critical_ends, market, 9, notes, part)
            judge = Judge(market, 1, 1)
            for wrong in NO_ROWS + ([1, 2, 3],):
                self.fails(BadWorld, {"place": -1}, judge, wrong)
                self.fails(BadWorld, {"place": -1}, critical_price, market, 9, wrong, 9)
            self.fails(BadWorld, {"place": 2}, judge, [1, 2, -3, 4])

    def test_arguments_stay(self):
        notes = Notes([(0, 2), (1, 1), (0, 4), (0, 0)])
        for market in self.markets():
            demand, world = [1, 1], [3, 1, 1, 0]
            judge = Judge(market, demand, 1)
            first = (judge(world), critical_price(market, demand, world, 1), critical_ends(market, demand, notes, 1),
                     end_worlds(market, demand, notes, 1))
            self.assertEqual((demand, world), ([1, 1], [3, 1, 1, 0]))
            demand[0] = 5
            self.same(judge.demand, (1, 1))
            world = (3, 1, 1, 0)
            self.same(first, (judge(world), critical_price(market, 1, world, 1), critical_ends(market, 1, notes, 1),
                              end_worlds(market, 1, notes, 1)))

    def test_defined_in_the_class(self):
        self.assertIn("__call__", vars(Judge))


if __name__ == "__main__":
    unittest.main()
