import itertools
import random
import unittest

from keptparts.cheapest import cheapest, price_of
from keptparts.errors import BadDemand, BadNumber, BadPart, BadRun, BadWorld, IsGone, NoStock, OtherRow
from keptparts.heights import Heights, fits
from keptparts.markets import Join, Lap
from keptparts.tables import Table
from keptparts.walks import shortest_walk
from support import (
    NO_INTEGERS, NO_ROWS, Case, all_runs, all_sets, best_price, best_stocks, covers, fit_by_words, great_market,
    more_by, price, random_cases, random_stock, random_world, row_of, stocks,
)

NO_RUNS = ((0, 3), (-1, 1), (1, 1), (2, 1), (0,), (0, 1, 2), (0, True), (0, 1.0), None, 5, "01", True)


FAR = 10 ** 9


def more_of(market, demand, world, found, run):
    other = best_price(world, stocks(market, more_by(market, demand, run, 1)))
    return None if other is None else other - best_price(world, found)


def less_of(market, demand, world, found, run):
    other = best_price(world, stocks(market, more_by(market, demand, run, -1)))
    return None if other is None else best_price(world, found) - other


def at_most(one, other):
    """For MORE: None is greater than every integer."""
    return other is None or one is not None and one <= other


class Tables(Case):
    """Promise 37: MORE and LESS."""

    def test_small_markets(self):
        empty = over = 0
        for seed, market, demand, found in random_cases(120):
            world = random_world(seed, market)
            table = Table(market, demand, list(world))
            self.assertIs(table.market, market)
            self.same((table.demand, table.world), (row_of(market, demand), world))
            self.same(table.price, best_price(world, found))
            self.assertIn(table.stock, best_stocks(world, found))
            known = True
            for run in all_runs(market.size):
                more = more_of(market, demand, world, found, run)
                less = less_of(market, demand, world, found, run)
                self.same((table.more(list(run)), table.less(run)), (more, less))
                known = known and more is not None and less is not None
                empty += more is None
                if market.KIND == "lap":
                    self.assertGreaterEqual(less, 0)
            self.same(table.known, known)
            over += any(a > b for a, b in zip(covers(market, table.stock), row_of(market, demand)))
        self.assertTrue(empty > 100 and over > 20)

    def test_every_cheapest_stock_tells_the_same(self):
        """Promise 36 and 37: walks of each cheapest stock."""
        for seed, market, demand, found in random_cases(60):
            world = random_world(seed, market, 2)
            table = Table(market, demand, world)
            for stock in best_stocks(world, found):
                for begin, end in all_runs(market.size):
                    ahead = shortest_walk(market, demand, world, stock, (begin, end))
                    back = shortest_walk(market, demand, world, stock, (end, begin))
                    self.same(table.more((begin, end)), None if ahead is None else ahead[0])
                    self.same(table.less((begin, end)), None if back is None else -back[0])

    def test_who_is_in_cheapest_stocks(self):
        told = {}
        for seed, market, demand, found in random_cases(200):
            world = random_world(seed, market)
            table = Table(market, demand, world)
            best = best_stocks(world, found)
            for part in range(market.many):
                if part in market.gone:
                    continue
                some, every = any(part in stock for stock in best), all(part in stock for stock in best)
                self.same((table.enters(part), table.stays(part)), (some, every))
                told[some, every] = told.get((some, every), 0) + 1
        self.assertTrue(len(told) == 3 and min(told.values()) > 30)

    def test_firm_and_dead_parts(self):
        table = Table(Join(2, [(0, 2), (0, 1), (0, 1)]), 1, (10 ** 30, 0, 1))
        self.same([table.enters(part) for part in range(3)], [True, False, False])
        self.same([table.stays(part) for part in range(3)], [True, False, False])
        table = Table(Lap(2, [(0, 1), (0, 2), (0, 1)]), 1, (0, 10 ** 30, 0))
        self.same([table.enters(part) for part in range(3)], [True, True, True])
        self.same([table.stays(part) for part in range(3)], [False, True, False])

    def test_full_sets(self):
        """Promise 37: where a MORE or LESS is None."""
        for seed, market, demand, found in random_cases(60, kind=Join):
            table = Table(market, demand, random_world(seed, market))
            row = (0,) + row_of(market, demand) + (0,)
            begins = [row[c + 1] - row[c] for c in range(market.size + 1)]
            full = []
            for points in all_sets(range(market.size + 1)):
                number = sum(1 for part, (a, b) in enumerate(market.runs)
                             if part not in market.gone and a in points and b not in points)
                if number == sum(begins[c] for c in points):
                    full.append(points)
            for c, d in all_runs(market.size):
                self.same(table.more((c, d)) is None, any(c in points and d not in points for points in full))
                self.same(table.less((c, d)) is None, any(d in points and c not in points for points in full))

    def test_in_words(self):
        market = Join(2, [(0, 1), (1, 2), (0, 2), (0, 2)], gone=[3])
        table = Table(market, 1, (3, 4, 9, 0))
        self.same([table.more((0, 2)), table.less((0, 2)), table.more((0, 1)), table.less((0, 1))], [9, 7, 5, 3])
        self.same([table.more((1, 2)), table.less((1, 2)), table.known], [6, 4, True])
        self.same(Table(market, 2, (3, 4, 9, 0)).more((0, 2)), None)
        self.same(Table(market, 0, (3, 4, 9, 0)).less((0, 2)), None)
        self.same(Table(market, [1, 1], [3, 4, 9, 0]).known, True)
        for kind in (Join, Lap):
            table = Table(kind(1, []), 0, ())
            self.same((table.stock, table.price, table.more((0, 1))), ((), 0, None))
        self.same(Table(Join(1, []), 0, ()).less((0, 1)), None)
        self.same(Table(Lap(1, []), 0, ()).less((0, 1)), 0)
        self.same(Table(Lap(1, []), -1, ()).more((0, 1)), 0)
        self.same(Table(Lap(1, []), -1, ()).known, True)

    def test_great_markets(self):
        for seed in range(8):
            market = great_market(seed)
            _, demand = random_stock(seed, market)
            world = random_world(seed, market, 10 ** 30)
            table = Table(market, demand, world)
            self.same(table.price, price_of(market, demand, world))
            for begin in range(0, 30, 7):
                for end in range(begin + 1, 31, 9):
                    for by, told in ((1, table.more((begin, end))), (-1, table.less((begin, end)))):
                        other = price_of(market, more_by(market, demand, (begin, end), by), world)
                        self.same(told, None if other is None else by * (other - table.price))
            for part in market.there():
                if part in table.stock:
                    self.same(table.enters(part), True)
                    other = price_of(market.lose([part]), demand, world)
                    self.same(table.stays(part), other != table.price)
                else:
                    self.same(table.stays(part), False)


class Levels(Case):
    """Promises 38 and 40: heights and tables."""

    def test_allows(self):
        allowed = 0
        for seed, market, demand, found in random_cases(100, most_places=3):
            chance = random.Random(seed)
            world = random_world(seed, market, 3)
            table = Table(market, demand, world)
            rows = list(itertools.product(range(-3, 4), repeat=market.size))
            for row in chance.sample(rows, min(40, len(rows))):
                heights = Heights((1,) + tuple(level + 1 for level in row))
                wanted = fit_by_words(market, demand, world, table.stock, heights.levels)
                self.same(table.allows(heights), wanted)
                self.same(fits(market, demand, world, table.stock, heights), wanted)
                allowed += wanted
        self.assertGreater(allowed, 200)

    def test_least_and_greatest_heights(self):
        none = some = 0
        for seed, market, demand, found in random_cases(100, most_places=3):
            world = random_world(seed, market, 2)
            table = Table(market, demand, world)
            ends = [(0, d) for d in range(1, market.size + 1)]
            rows = [(0,) + row for row in itertools.product(range(-6, 7), repeat=market.size)
                    if fit_by_words(market, demand, world, table.stock, (0,) + row)]
            for told, find, amounts in ((table.lowest(), min, [table.less(run) for run in ends]),
                                        (table.highest(), max, [table.more(run) for run in ends])):
                if None in amounts:
                    none += 1
                    self.assertIsNone(told)
                else:
                    some += 1
                    self.assertIs(type(told), Heights)
                    self.same(told.levels, (0,) + tuple(amounts))
                    self.same(told.levels, tuple(find(row[c] for row in rows) for c in range(market.size + 1)))
        self.assertTrue(none > 40 and some > 40)

    def test_between(self):
        bound = unbound = 0
        for seed, market, demand, found in random_cases(80):
            world = random_world(seed, market, 3)
            table = Table(market, demand, world)
            for run in all_runs(market.size):
                more, less = table.more(run), table.less(run)
                unbound += more is None
                low = -10 ** 30 if less is None else less
                high = 10 ** 30 if more is None else more
                for number in {low, high, max(low, min(high, 2)), (low + high) // 2}:
                    heights = table.between(list(run), number)
                    self.assertIs(type(heights), Heights)
                    self.same(heights.worth(run), number)
                    self.assertTrue(fit_by_words(market, demand, world, table.stock, heights.levels))
                    bound += 1
                if less is not None:
                    self.fails(BadNumber, {"name": "number"}, table.between, run, less - 1)
                if more is not None:
                    self.fails(BadNumber, {"name": "number"}, table.between, run, more + 1)
        self.assertTrue(bound > 300 and unbound > 50)

    def test_two_runs_at_once(self):
        """Promise 38: two worths that are allowed each need not be allowed together."""
        table = Table(Join(2, [(0, 1), (1, 2), (0, 2), (0, 2)]), 1, (1, 1, 2, 5))
        self.same(table.allows(table.between((0, 1), 1)), True)
        table = Table(Join(2, [(0, 2), (0, 2)]), 1, (3, 5))
        self.same([table.less((0, 2)), table.more((0, 2)), table.less((0, 1)), table.more((1, 2))], [3, 5, None, None])
        self.same([table.between((0, 1), 10 ** 40).worth((0, 1)), table.between((1, 2), -7).worth((1, 2))],
                  [10 ** 40, -7])
        self.same(table.allows(Heights([0, 10, 20])), False)

    def test_size_ends(self):
        """Promise 38: the numbers h(n) - h(0)."""
        for seed, market, demand, found in random_cases(60, most_places=3, most_parts=5):
            world = random_world(seed, market, 2)
            table = Table(market, demand, world)
            rows = [(0,) + row for row in itertools.product(range(-5, 6), repeat=market.size)]
            told = {row[-1] for row in rows if fit_by_words(market, demand, world, table.stock, row)}
            run = (0, market.size)
            less, more = table.less(run), table.more(run)
            low = -5 if less is None else less
            high = 5 if more is None else more
            if -3 <= low and high <= 3:
                self.assertEqual(sorted(told), list(range(low, high + 1)))
            for number in range(max(low, -5), min(high, 5) + 1):
                self.same(table.between(run, number).worth(run), number)

    def test_heights_of_two_demands(self):
        """Promise 40."""
        checked = 0
        for seed, market, demand, found in random_cases(80):
            world = random_world(seed, market)
            table = Table(market, demand, world)
            for run in all_runs(market.size):
                for by, number in ((1, table.more(run)), (-1, table.less(run))):
                    if number is None:
                        continue
                    heights = table.between(run, number)
                    other = more_by(market, demand, run, by)
                    for stock in best_stocks(world, stocks(market, other))[:4]:
                        checked += 1
                        self.same(fits(market, other, world, stock, heights), True)
        self.assertGreater(checked, 200)

    def test_great_markets(self):
        for seed in range(8):
            market = great_market(seed)
            _, demand = random_stock(seed, market)
            world = random_world(seed, market, 10 ** 30)
            table = Table(market, demand, world)
            for run in ((0, 30), (3, 4), (10, 20), (29, 30)):
                more, less = table.more(run), table.less(run)
                low = -10 ** 30 if less is None else less
                high = 10 ** 31 if more is None else more
                for number in (low, high, (low + high) // 2):
                    heights = table.between(run, number)
                    self.same(heights.worth(run), number)
                    self.same(fits(market, demand, world, table.stock, heights), True)
                    self.same(table.allows(heights), True)
            for heights in (table.lowest(), table.highest()):
                if heights is not None:
                    self.same(fits(market, demand, world, table.stock, heights), True)
            self.same(table.known, None not in [pick(run) for pick in (table.more, table.less)
                                                for run in all_runs(30)])


class Relations(Case):
    """Promise 39: relations of a table."""

    def test_small_markets(self):
        checked = 0
        for seed, market, demand, found in random_cases(100):
            table = Table(market, demand, random_world(seed, market))
            more, less = table.more, table.less
            for run in all_runs(market.size):
                if less(run) is not None:
                    self.assertTrue(at_most(less(run), more(run)))
            for c, d, e in itertools.combinations(range(market.size + 1), 3):
                one, two, both = (c, d), (d, e), (c, e)
                # None is greatest for MORE and least for LESS.
                cost = FAR if more(both) is None else more(both)
                saved = -FAR if less(both) is None else less(both)
                for bound, first, second in (
                    (lambda total: cost <= total, more(one), more(two)),
                    (lambda total: saved >= total, less(one), less(two)),
                    (lambda total: cost >= total, more(one), less(two)),
                    (lambda total: cost >= total, less(one), more(two)),
                    (lambda total: saved <= total, less(one), more(two)),
                    (lambda total: saved <= total, more(one), less(two)),
                ):
                    if first is not None and second is not None:
                        checked += 1
                        self.assertTrue(bound(first + second))
        self.assertGreater(checked, 200)


class Wrong(Case):
    """Promises 1 and 2."""

    def markets(self):
        return [kind(2, [(0, 2), (0, 1), (1, 2), (0, 2)], gone=[3]) for kind in (Join, Lap)]

    def test_orders(self):
        for market in self.markets():
            self.order(Table, (market, 1, (3, 1, 1, 0)), (
                (1, [1, None], BadDemand, {"place": 1}), (2, (1, 2, 3, True), BadWorld, {"place": 3}),
                (1, 4, NoStock, {}),
            ))
            for wrong in NO_ROWS:
                self.fails(BadWorld, {"place": -1}, Table, market, 4, wrong)
        self.fails(NoStock, {}, Table, Join(2, [(0, 2)]), [1, 0], [0])
        self.fails(NoStock, {}, Table, Join(2, [(0, 2)]), -1, [0])

    def test_wrong_runs_and_numbers(self):
        for market in self.markets():
            table = Table(market, 1, (3, 1, 1, 0))
            for run in NO_RUNS:
                self.fails(BadRun, {"place": -1}, table.more, run)
                self.fails(BadRun, {"place": -1}, table.less, run)
                self.fails(BadRun, {"place": -1}, table.between, run, None)
            for number in NO_INTEGERS:
                self.fails(BadNumber, {"name": "number"}, table.between, (0, 2), number)

    def test_wrong_parts_and_heights(self):
        for market in self.markets():
            table = Table(market, 1, (3, 1, 1, 0))
            for ask in (table.enters, table.stays):
                for part in NO_INTEGERS + (-1, 4):
                    self.fails(BadPart, {"part": part}, ask, part)
                self.fails(IsGone, {"part": 3}, ask, 3)
            self.fails(OtherRow, {"size": 1}, table.allows, Heights([0, 1]))
            self.fails(OtherRow, {"size": 3}, table.allows, Heights([0, 1, 1, 1]))

    def test_arguments_stay(self):
        for market in self.markets():
            demand, world, run = [1, 1], [3, 1, 1, 0], [0, 2]
            table = Table(market, demand, world)
            before = (table.more(run), table.less(run), table.lowest().levels, table.between(run, 2).levels)
            self.assertEqual((demand, world, run), ([1, 1], [3, 1, 1, 0], [0, 2]))
            demand[0] = world[1] = run[0] = 1
            self.same((table.demand, table.world), ((1, 1), (3, 1, 1, 0)))
            again = Table(market, (1, 1), (3, 1, 1, 0))
            for other in (table, again):
                self.same((other.more((0, 2)), other.less((0, 2)), other.lowest().levels,
                           other.between((0, 2), 2).levels), before)
            self.same(again.stock, cheapest(market, 1, (3, 1, 1, 0)))
            self.same(price((3, 1, 1, 0), again.stock), again.price)

    def test_defined_in_the_class(self):
        for name in ("more", "less", "allows", "between", "lowest", "highest", "enters", "stays"):
            self.assertIn(name, vars(Table))
        self.assertIsInstance(vars(Table)["known"], property)


if __name__ == "__main__":
    unittest.main()
