import random
import unittest

from keptparts.covers import (
    begins, changed, check_stock, cover, demand_of, is_stock, misfit_place, over,
)
from keptparts.errors import BadDemand, BadNumber, BadRun, BadSet, NotAStock
from keptparts.markets import Join, Lap
from support import NO_INTEGERS, NO_ROWS, Case, all_sets, covers, is_a_stock, random_demand, random_market, row_of

RUNS = [(0, 2), (1, 3), (0, 2), (2, 3)]
NO_DEMANDS = tuple(wrong for wrong in NO_ROWS if wrong != 7) + ((), [1, 1], (1, 1, 1, 1), False, 1.0, "1")


def both_kinds(gone=()):
    return [kind(3, RUNS, gone=gone) for kind in (Join, Lap)]


class Demands(Case):
    """Promise 6: demands, covers, begins."""

    def test_demand_of(self):
        for market in both_kinds():
            self.same(demand_of(market, 2), (2, 2, 2))
            self.same(demand_of(market, -50), (-50, -50, -50))
            self.same(demand_of(market, [1, -2, 0]), (1, -2, 0))
            self.same(demand_of(market, (1, -2, 0)), (1, -2, 0))
        self.same(demand_of(Join(1, []), [4]), (4,))
        self.same(demand_of(Lap(30, []), 50), (50,) * 30)

    def test_wrong_demands(self):
        functions = (
            demand_of, lambda market, demand: is_stock(market, demand, None),
            lambda market, demand: misfit_place(market, demand, None),
            lambda market, demand: check_stock(market, demand, None),
            lambda market, demand: over(market, demand, None), begins,
            lambda market, demand: changed(market, demand, None, None),
        )
        for market in both_kinds():
            for function in functions:
                for demand in NO_DEMANDS:
                    self.fails(BadDemand, {"place": -1}, function, market, demand)
                for item in NO_INTEGERS:
                    self.fails(BadDemand, {"place": 1}, function, market, [1, item, item])
                    self.fails(BadDemand, {"place": 2}, function, market, (0, 0, item))

    def test_cover(self):
        for market in both_kinds(gone=[2]):
            self.same(cover(market, [2, 0, 1]), (2, 3, 1))
            self.same(cover(market, ()), (0, 0, 0))
            self.same(cover(market, (3,)), (0, 0, 1))

    def test_cover_counts(self):
        for seed in range(100):
            market = random_market(seed)
            for chosen in all_sets(range(market.many)):
                told = cover(market, chosen)
                self.same(told, covers(market, chosen))
                lengths = [market.runs[part][1] - market.runs[part][0] for part in chosen]
                self.assertEqual(sum(told), sum(lengths))

    def test_begins(self):
        for market in both_kinds():
            self.same(begins(market, 2), (2, 0, 0, -2))
            self.same(begins(market, [1, 3, -1]), (1, 2, -4, 1))
            self.same(begins(market, 0), (0, 0, 0, 0))

    def test_changed(self):
        for market in both_kinds():
            self.same(changed(market, 1, (0, 2), 1), (2, 2, 1))
            self.same(changed(market, [1, 2, 3], [1, 3], -4), (1, -2, -1))
            self.same(changed(market, (1, 2, 3), (0, 3), 0), (1, 2, 3))
            for run in ((0, 4), (1, 1), (2, 1), (0,), (0, True), None, "01", 3):
                self.fails(BadRun, {"place": -1}, changed, market, 1, run, None)
            for by in NO_INTEGERS:
                self.fails(BadNumber, {"name": "by"}, changed, market, 1, (0, 1), by)


class Stocks(Case):
    """Promise 7: which sets are stocks."""

    def test_is_stock(self):
        join, lap = both_kinds()
        self.same(is_stock(join, 1, [3, 0]), True)
        self.same(is_stock(join, 1, [0, 1]), False)
        self.same(is_stock(lap, 1, [0, 1]), True)
        self.same(is_stock(lap, [2, 2, 1], (0, 1)), False)
        self.same(is_stock(join, [1, 2, 1], (0, 1)), True)
        self.same(is_stock(join, 0, ()), True)
        self.same(is_stock(lap, [0, -1, -50], ()), True)
        self.same(is_stock(join, [0, -1, 0], ()), False)
        join, lap = both_kinds(gone=[2])
        self.same(is_stock(join, 1, (2, 3)), False)
        self.same(is_stock(lap, 1, (0, 1, 2)), False)

    def test_all_sets_of_small_markets(self):
        for seed in range(150):
            market = random_market(seed)
            demand = random_demand(seed, market)
            row = row_of(market, demand)
            for chosen in all_sets(range(market.many)):
                wanted = is_a_stock(market, demand, chosen)
                self.same(is_stock(market, demand, chosen), wanted)
                self.same(is_stock(market, list(row), list(chosen)[::-1]), wanted)
                counts = covers(market, chosen)
                if market.KIND == "join":
                    wrong = [place for place in range(market.size) if counts[place] != row[place]]
                else:
                    wrong = [place for place in range(market.size) if counts[place] < row[place]]
                place = wrong[0] if wrong else None
                self.same(misfit_place(market, demand, chosen), place)
                more = tuple(place for place in range(market.size) if counts[place] > row[place])
                self.same(over(market, demand, chosen), more)
                if wanted:
                    self.same(check_stock(market, demand, list(chosen)[::-1]), chosen)
                elif set(chosen) & set(market.gone):
                    self.fails(NotAStock, {"place": -1}, check_stock, market, demand, chosen)
                else:
                    self.fails(NotAStock, {"place": place}, check_stock, market, demand, chosen)

    def test_join_stocks_by_begins(self):
        for seed in range(60):
            market = random_market(seed, Join, gone=False)
            demand = random_demand(seed, market)
            told = begins(market, demand)
            for chosen in all_sets(range(market.many)):
                runs = [market.runs[part] for part in chosen]
                balance = tuple(
                    sum(run[0] == point for run in runs) - sum(run[1] == point for run in runs)
                    for point in range(market.size + 1)
                )
                self.same(is_stock(market, demand, chosen), balance == told)

    def test_gone_parts_count_for_places(self):
        join, lap = both_kinds(gone=[2])
        self.same(misfit_place(join, 1, (2, 3)), None)
        self.same(misfit_place(lap, 2, (2, 0)), 2)
        self.same(over(join, 1, (0, 2)), (0, 1))
        self.same(over(lap, [3, 0, -1], (2,)), (1, 2))
        self.fails(NotAStock, {"place": -1}, check_stock, join, 1, (2, 3))
        self.fails(NotAStock, {"place": -1}, check_stock, lap, 9, (2, 3))

    def test_wrong_sets(self):
        functions = (
            cover, lambda market, parts: is_stock(market, 1, parts),
            lambda market, parts: misfit_place(market, 1, parts),
            lambda market, parts: check_stock(market, 1, parts), lambda market, parts: over(market, 1, parts),
        )
        for market in both_kinds(gone=[3]):
            for function in functions:
                for parts in NO_ROWS:
                    self.fails(BadSet, {"place": -1}, function, market, parts)
                for part in NO_INTEGERS + (-1, 4):
                    self.fails(BadSet, {"place": 1}, function, market, [3, part])
                self.fails(BadSet, {"place": 2}, function, market, (1, 0, 1))

    def test_greatest_market(self):
        chance = random.Random(5)
        runs = [tuple(sorted(chance.sample(range(31), 2))) for _ in range(60)]
        for kind in (Join, Lap):
            market = kind(30, runs)
            whole = tuple(range(60))
            counts = covers(market, whole)
            self.same(cover(market, whole), counts)
            self.same(check_stock(market, counts, whole), whole)
            self.same(over(market, -50, whole), tuple(range(30)))


class ArgumentsStay(Case):
    """Promise 1: no argument is changed, and equal arguments give equal answers."""

    def test_covers(self):
        market = Lap(3, RUNS)
        demand, parts, run = [1, 1, 1], [3, 2, 0], [0, 2]
        first = (cover(market, parts), is_stock(market, demand, parts), misfit_place(market, demand, parts),
                 check_stock(market, demand, parts), over(market, demand, parts), begins(market, demand),
                 changed(market, demand, run, 2), demand_of(market, demand))
        self.assertEqual((demand, parts, run), ([1, 1, 1], [3, 2, 0], [0, 2]))
        demand, parts, run = tuple(demand), tuple(parts), tuple(run)
        again = (cover(market, parts), is_stock(market, demand, parts), misfit_place(market, demand, parts),
                 check_stock(market, demand, parts), over(market, demand, parts), begins(market, demand),
                 changed(market, demand, run, 2), demand_of(market, demand))
        self.same(first, again)


if __name__ == "__main__":
    unittest.main()
