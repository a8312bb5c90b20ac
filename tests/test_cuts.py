import itertools
import random
import unittest

from keptparts.cuts import (
    bears, blow_at, entering, full_points, lacking, least_cut, leaving, outflow, state_of, strength,
)
from keptparts.errors import BadDemand, BadNumber, BadPart, BadPoint, IsGone, NoStock
from keptparts.markets import Join, Lap
from keptparts.stocks import has_stock
from support import (
    NO_INTEGERS, Case, all_sets, covers, great_market, random_demand, random_market, random_stock, row_of, stocks,
)

NO_POINTS = (None, True, 3, "01", {0: 1}, {0}, b"0")


def there(market):
    return [part for part in range(market.many) if part not in market.gone]


def leavers(market, points):
    runs = market.runs
    return tuple(part for part in there(market) if runs[part][0] in points and runs[part][1] not in points)


def enterers(market, points):
    runs = market.runs
    return tuple(part for part in there(market) if runs[part][1] in points and runs[part][0] not in points)


def flow_out(market, demand, points):
    row = row_of(market, demand)
    before, after = (0,) + row, row + (0,)
    return sum(after[point] - before[point] for point in points)


def greatest_size(market):
    k = 0
    while stocks(market, k + 1):
        k += 1
    return k


class Strength(Case):
    """Promises 24 and 27: strength, cuts, losses, blows."""

    def check_cut(self, market, size):
        cut = least_cut(market)
        self.same(cut, tuple(sorted(set(cut))))
        if market.KIND == "join":
            self.assertTrue(0 in cut and market.size not in cut)
            self.assertEqual(len(leavers(market, cut)), size)
        else:
            self.assertEqual(cut, tuple(range(len(cut))))
            self.assertEqual(covers(market, there(market))[len(cut) - 1], size)

    def test_small_markets(self):
        for seed in range(200):
            market = random_market(seed, None, 4, 7)
            size = greatest_size(market)
            self.same(strength(market), size)
            self.check_cut(market, size)
            for k in range(size + 2):
                self.same(has_stock(market, k), k <= size)
            if market.KIND == "join":
                inner = range(1, market.size)
                cuts = [(0,) + points for points in all_sets(inner)]
                self.assertEqual(size, min(len(leavers(market, cut)) for cut in cuts))
                self.assertGreaterEqual(strength(Lap(market.size, market.runs, gone=market.gone)), size)
            for lost in itertools.combinations(there(market), 2):
                self.assertGreaterEqual(strength(market - lost), size - 2)

    def test_great_markets(self):
        for seed in range(60):
            market = great_market(seed)
            size = strength(market)
            self.check_cut(market, size)
            self.same(has_stock(market, size), True)
            self.same(has_stock(market, size + 1), False)

    def test_great_join_markets(self):
        for seed in range(20):
            chance = random.Random(seed)
            cuts = [sorted(chance.sample(range(1, 30), 4)) for _ in range(12)]
            runs = [run for cut in cuts for run in zip([0] + cut, cut + [30])]
            market = Join(30, runs)
            self.same(strength(market), 12)
            self.check_cut(market, 12)
            for k in (1, 5, 12):
                blow = blow_at(market, k)
                self.assertEqual(len(blow), 13 - k)
                self.same(has_stock(market - blow, k), False)

    def test_no_parts(self):
        for kind in (Join, Lap):
            for size in (1, 30):
                self.same(strength(kind(size, [])), 0)
                self.check_cut(kind(size, []), 0)
                self.same(strength(kind(size, [(0, size)] * 2, gone=[0, 1])), 0)
                self.same(strength(kind(size, [(0, size)] * 60)), 60)

    def test_bears(self):
        for seed in range(80):
            market = random_market(seed, None, 3, 6)
            for losses in range(4):
                lost = [gone for gone in all_sets(there(market)) if len(gone) <= losses]
                wanted = all(stocks(market - gone, 1) for gone in lost)
                self.same(bears(market, losses), wanted)
        market = Join(1, [(0, 1)])
        self.same(bears(market, 10 ** 30), False)
        for losses in NO_INTEGERS + (-1,):
            self.fails(BadNumber, {"name": "losses"}, bears, market, losses)

    def test_losing_parts_of_a_stock(self):
        """Promise 27: what a set holds after the loss of some of its parts."""
        for seed in range(40):
            market = random_market(seed, None, 3, 6, gone=False)
            for k, f in ((1, 1), (1, 2), (2, 1)):
                wanted = all(stocks(market - lost, k) for lost in itertools.combinations(there(market), f))
                self.same(wanted and len(there(market)) >= f, bool(stocks(market, k + f)))

    def test_blows(self):
        for seed in range(100):
            market = random_market(seed, None, 3, 7)
            size = greatest_size(market)
            for k in range(1, size + 1):
                blow = blow_at(market, k)
                self.same(blow, tuple(sorted(set(blow) - set(market.gone))))
                self.assertEqual(len(blow), size - k + 1)
                self.assertFalse(stocks(market - blow, k))
                for less in itertools.combinations(there(market), size - k):
                    self.assertTrue(stocks(market - less, k))
            for number in NO_INTEGERS + (-1, 0, size + 1):
                self.fails(BadNumber, {"name": "number"}, blow_at, market, number)


class Points(Case):
    """Promise 23: parts that leave and enter a set of points, outflow, lacks."""

    def test_small_markets(self):
        for seed in range(60):
            market = random_market(seed)
            demand = random_demand(seed, market)
            for points in all_sets(range(market.size + 1)):
                self.same(leaving(market, points), leavers(market, points))
                self.same(entering(market, list(points)[::-1]), enterers(market, points))
                self.same(outflow(market, demand, list(points)[::-1]), flow_out(market, demand, points))

    def test_wrong_points(self):
        for kind in (Join, Lap):
            market = kind(3, [(0, 2), (1, 3)])
            for function in (leaving, entering, lambda market, points: outflow(market, 1, points)):
                for points in NO_POINTS:
                    self.fails(BadPoint, {"point": points}, function, market, points)
                for point in NO_INTEGERS + (-1, 4):
                    self.fails(BadPoint, {"point": point}, function, market, (3, point, 9))
                self.fails(BadPoint, {"point": 2}, function, market, [0, 2, 1, 2, 1])
            self.order(outflow, (market, 1, [0]), (
                (1, [1], BadDemand, {"place": -1}), (2, [0, 4], BadPoint, {"point": 4}),
            ))
            points = [3, 0]
            self.same((leaving(market, points), entering(market, points)), ((0,), (1,)))
            self.same(outflow(market, [2, 1, 1], points), 1)
            self.assertEqual(points, [3, 0])

    def check_lack(self, market, demand, points):
        self.same(points, tuple(sorted(set(points))))
        self.assertGreater(flow_out(market, demand, points), len(leavers(market, points)))
        if market.KIND == "lap":
            place = len(points) - 1
            self.assertEqual(points, tuple(range(place + 1)))
            self.assertLess(covers(market, there(market))[place], row_of(market, demand)[place])

    def test_lacks(self):
        lacks = 0
        for seed in range(400):
            market = random_market(seed)
            demand = random_demand(seed + 3, market, -1, 3)
            points = lacking(market, demand)
            if stocks(market, demand):
                self.assertIsNone(points)
                if market.KIND == "join":
                    for chosen in all_sets(range(market.size + 1)):
                        flow = flow_out(market, demand, chosen)
                        self.assertLessEqual(flow, len(leavers(market, chosen)))
            else:
                lacks += 1
                self.check_lack(market, demand, points)
        self.assertGreater(lacks, 60)

    def test_lacks_of_great_markets(self):
        for seed in range(60):
            market = great_market(seed)
            stock, demand = random_stock(seed, market)
            self.assertIsNone(lacking(market, demand))
            for wrong in (50, [50, -50] * 15, [-50, 50] * 15):
                self.check_lack(market, wrong, lacking(market, wrong))
        self.check_lack(Join(3, []), -1, lacking(Join(3, []), -1))
        self.assertIsNone(lacking(Lap(3, []), -1))
        self.assertIsNone(lacking(Join(3, []), 0))


class States(Case):
    """Promises 25 and 26: firm, dead and loose parts, full sets of points."""

    def test_small_markets(self):
        met = {}
        for seed in range(250):
            market = random_market(seed)
            demand = random_demand(seed, market)
            found = stocks(market, demand)
            if not found:
                continue
            for part in there(market):
                many = sum(part in stock for stock in found)
                state = "firm" if many == len(found) else "loose" if many else "dead"
                met[state] = met.get(state, 0) + 1
                self.same(state_of(market, demand, part), state)
                self.check_full(market, demand, part, state, full_points(market, demand, part))
        self.assertTrue(min(met.values()) > 20 and len(met) == 3, met)

    def check_full(self, market, demand, part, state, points):
        if state == "loose":
            self.assertIsNone(points)
            return
        self.same(points, tuple(sorted(set(points))))
        begin, end = market.runs[part]
        if market.KIND == "join":
            self.assertEqual(len(leavers(market, points)), flow_out(market, demand, points))
            self.assertEqual((begin in points, end in points), (state == "firm", state != "firm"))
        else:
            place = len(points) - 1
            self.assertEqual(points, tuple(range(place + 1)))
            self.assertTrue(begin <= place < end)
            self.assertEqual(covers(market, there(market))[place], row_of(market, demand)[place])

    def test_full_sets(self):
        """Each stock has all parts that leave a full set and none that enter it (join)."""
        for seed in range(60):
            market = random_market(seed, Join)
            demand = random_demand(seed, market)
            found = stocks(market, demand)
            for points in all_sets(range(market.size + 1)):
                if found and len(leavers(market, points)) == flow_out(market, demand, points):
                    for stock in found:
                        self.assertTrue(set(leavers(market, points)) <= set(stock))
                        self.assertFalse(set(enterers(market, points)) & set(stock))

    def test_great_markets(self):
        for seed in range(40):
            market = great_market(seed)
            stock, demand = random_stock(seed, market)
            for part in there(market)[:12]:
                state = state_of(market, demand, part)
                self.check_full(market, demand, part, state, full_points(market, demand, part))
                without = has_stock(market - [part], demand)
                self.same(state == "firm", not without)

    def test_sizes(self):
        for seed in range(80):
            market = random_market(seed, None, 3, 7)
            size = greatest_size(market)
            for k in range(1, size + 1):
                states = [state_of(market, k, part) for part in there(market)]
                self.assertEqual("firm" in states, k == size)
                if market.KIND == "lap":
                    self.assertNotIn("dead", states)
            for part in there(market):
                self.same(state_of(market, 0, part), "dead" if market.KIND == "join" else "loose")

    def test_errors(self):
        for kind in (Join, Lap):
            market = kind(2, [(0, 2), (0, 1), (1, 2), (0, 2)], gone=[3])
            for function in (state_of, full_points):
                self.order(function, (market, 1, 0), (
                    (1, [1], BadDemand, {"place": -1}), (2, 4, BadPart, {"part": 4}),
                    (2, 3, IsGone, {"part": 3}), (1, 3, NoStock, {}),
                ))
                for part in NO_INTEGERS + (-1, 4):
                    self.fails(BadPart, {"part": part}, function, market, 9, part)
                self.fails(BadDemand, {"place": 1}, function, market, [1, None], None)
            for function in (lacking,):
                self.fails(BadDemand, {"place": -1}, function, market, (1, 1, 1))


if __name__ == "__main__":
    unittest.main()
