import itertools
import random
import unittest

from keptparts.bridges import bridge
from keptparts.critical import critical_price
from keptparts.crossing import crossing_pair, sides
from keptparts.cuts import strength
from keptparts.errors import BadRun, BadSet, NotJoin
from keptparts.folds import Folding, folding_of
from keptparts.heights import fits
from keptparts.markets import Join, Lap
from keptparts.mending import mend_rings
from keptparts.possible import possible_stocks
from keptparts.tables import Table
from keptparts.useful import market_runs, useful_runs
from support import (
    NO_INTEGERS, NO_ROWS, Case, all_runs, all_sets, behind, best_price, best_stocks, chain_rows, folding_runs,
    lost_stocks, loose_parts, market_over, price, random_market, random_notes, random_runs, random_world, ring_moves,
    stocks, stocks_by_size, threshold,
)

FIVE = [(0, 1), (0, 2), (1, 2), (1, 3), (2, 3)]
WRONG_RUNS = ((-1, 1), (1, 1), (2, 1), (0,), (0, 1, 2), (0, True), (0, 1.0), ("0", "1"), None, 5, "01", True)


def cross(one, other):
    (a, b), (c, d) = one, other
    return a < c < b < d or c < a < d < b


def plain_runs(seed, size, most=7):
    """Random runs no two of which cross."""
    runs = []
    for run in random_runs(seed, size, 2 * most):
        if len(runs) < most and not any(cross(run, other) for other in runs):
            runs.append(run)
    return runs


def crossed_runs(seed, size):
    """Random runs, many of them useful, and some of them crossing."""
    chance = random.Random(seed)
    runs = folding_runs(chance, 0, size, list(range(1, size)), 4)
    return runs + folding_runs(chance, 0, size, list(range(1, size)), 2) * (seed % 2)


def plain_markets(many, most=2):
    """Join markets in which no two runs cross, of a strength of at least 1, with all their stocks by size."""
    seed = told = 0
    while told < many:
        seed += 1
        size = 2 + seed % 3
        market = market_over(seed, size, plain_runs(seed, size, 5), most)
        if crossing_pair(market_runs(market)) is None and len(market.there()) <= 8:
            by_size = stocks_by_size(market)
            if len(by_size) > 1:
                told += 1
                yield seed, market, by_size


class Pairs(Case):
    """Promises 3 and 116: crossing runs."""

    def test_small_sets(self):
        told = {True: 0, False: 0}
        for seed in range(300):
            runs = random_runs(seed, 2 + seed % 5, 6)
            pairs = [(one, other) for one, other in itertools.product(sorted(set(runs)), repeat=2)
                     if one < other and cross(one, other)]
            self.same(crossing_pair([list(run) for run in runs]), min(pairs, default=None))
            told[bool(pairs)] += 1
        self.assertTrue(min(told.values()) > 50, told)

    def test_edges(self):
        self.same(crossing_pair([]), None)
        self.same(crossing_pair(((0, 2), (0, 3), (1, 3), (2, 4), (2, 3))), ((0, 2), (1, 3)))
        self.same(crossing_pair([(1, 3), [0, 2]]), ((0, 2), (1, 3)))
        self.same(crossing_pair([(0, 3), (1, 2), (1, 3), (0, 1), (3, 9), (0, 3)]), None)
        self.same(crossing_pair([(50, 100), (10, 60)]), ((10, 60), (50, 100)))
        self.same(crossing_pair(all_runs(30)), ((0, 2), (1, 3)))

    def test_plain_sets_fold(self):
        """If no two useful runs cross, they fold; a folding set may have crossing runs."""
        folded = crossed = 0
        for seed in range(200):
            size = 2 + seed // 2 % 4
            runs = crossed_runs(seed, size) if seed % 2 else plain_runs(seed, size)
            useful = useful_runs(size, runs)
            if useful and crossing_pair(useful) is None:
                folded += 1
                self.same(Folding(size, runs).folds, True)
                self.same(bridge(size, runs), None)
            elif useful:
                crossed += Folding(size, runs).folds
        self.assertTrue(folded > 50 and crossed > 3, (folded, crossed))
        self.same(Folding(3, [(0, 2), (2, 3), (0, 1), (1, 3)]).folds, True)
        self.same(crossing_pair([(0, 2), (2, 3), (0, 1), (1, 3)]), ((0, 2), (1, 3)))

    def test_rings(self):
        """No two useful runs cross exactly if each ring has just one out or just one in."""
        for seed, market, by_size in plain_markets(60):
            for number, found in enumerate(by_size):
                for stock in found:
                    self.assertTrue(all(1 in (len(outs), len(ins)) for outs, ins in ring_moves(market, number, stock)))
        checked = 0
        for seed in range(150):
            size = 3 + seed % 3
            useful = useful_runs(size, crossed_runs(seed, size))
            if crossing_pair(useful) is None or len(useful) > 8:
                continue
            checked += 1
            market = Join(size, useful)
            found = [move for stock in stocks(market, 1) for move in ring_moves(market, 1, stock)]
            self.assertTrue(any(len(outs) > 1 and len(ins) > 1 for outs, ins in found))
        self.assertGreater(checked, 25)

    def test_wrong(self):
        for runs in NO_ROWS:
            self.fails(BadRun, {"place": -1}, crossing_pair, runs)
        for run in WRONG_RUNS:
            self.fails(BadRun, {"place": 2}, crossing_pair, [(0, 2), [1, 3], run, run])
        runs = [[1, 3], [0, 2]]
        crossing_pair(runs)
        self.assertEqual(runs, [[1, 3], [0, 2]])


class Sides(Case):
    """Promise 112: rings that lead over two chains."""

    def by_words(self, market, outs, ins):
        rows = []
        for parts in (outs, ins):
            orders = [row for row in itertools.permutations(parts) if parts
                      and all(market.runs[a][1] == market.runs[b][0] for a, b in zip(row, row[1:]))]
            if not orders:
                return None
            rows.append(orders[0])
        points = [[market.runs[row[0]][0]] + [market.runs[part][1] for part in row] for row in rows]
        if (points[0][0], points[0][-1]) != (points[1][0], points[1][-1]):
            return None
        return None if set(points[0][1:-1]) & set(points[1]) else tuple(rows)

    def test_small_markets(self):
        told = {True: 0, False: 0}
        for seed in range(80):
            market = random_market(seed, Join, most_parts=6)
            for outs in all_sets(range(market.many)):
                for ins in all_sets(range(market.many)):
                    if len(outs) + len(ins) > 4 and len(outs) != 2:
                        continue
                    wanted = self.by_words(market, outs, ins)
                    self.same(sides(market, list(outs)[::-1], ins), wanted)
                    told[wanted is not None] += 1
        self.assertTrue(min(told.values()) > 300, told)

    def test_in_words(self):
        market = Join(4, [(2, 4), (0, 1), (0, 4), (1, 2), (0, 3), (3, 4), (0, 2), (0, 4)], gone=[7])
        self.same(sides(market, [2], [0, 1, 3]), ((2,), (1, 3, 0)))
        self.same(sides(market, (1, 3, 0), (4, 5)), ((1, 3, 0), (4, 5)))
        self.same(sides(market, (1, 3, 0), (0, 6)), None)
        self.same(sides(market, [6], [1, 3]), ((6,), (1, 3)))
        self.same(sides(market, [7], [4, 5]), ((7,), (4, 5)))
        for outs, ins in (((), ()), ((), (2,)), ((2,), ()), ((2,), (0, 1)), ((2,), (0, 6, 3)), ((4,), (2,)),
                          ((2,), (2, 7))):
            self.same(sides(market, outs, ins), None)

    def test_wrong(self):
        market, lap = Join(2, [(0, 1), (1, 2), (0, 2)]), Lap(2, [(0, 1), (1, 2), (0, 2)])
        for value in NO_ROWS:
            self.fails(BadSet, {"place": -1}, sides, market, value, (2,))
            self.fails(BadSet, {"place": -1}, sides, market, (2,), value)
        for value in NO_INTEGERS + (-1, 3, 0):
            self.fails(BadSet, {"place": 1}, sides, market, [0, value], (2,))
            self.fails(BadSet, {"place": 1}, sides, market, (), [0, value])
        self.order(sides, (market, [0, 1], [2]), (
            (0, lap, NotJoin, {}), (1, [5], BadSet, {"place": 0}), (2, [2, 2], BadSet, {"place": 1}),
        ))
        outs, ins = [1, 0], [2]
        self.same(sides(market, outs, ins), ((0, 1), (2,)))
        self.assertEqual((outs, ins), ([1, 0], [2]))


class BothKinds(Case):
    """Promise 117: join and lap."""

    def test_plain_markets(self):
        critical = 0
        for seed, market, by_size in plain_markets(60):
            lap = Lap(market.size, market.runs, gone=market.gone)
            lap_sizes = stocks_by_size(lap)
            self.same((strength(market), len(by_size)), (strength(lap), len(lap_sizes)))
            world = random_world(seed, market)
            for number, found in enumerate(by_size):
                for stock in lap_sizes[number]:
                    self.assertTrue(any(set(other) <= set(stock) for other in found))
                self.same(best_price(world, found), best_price(world, lap_sizes[number]))
                for part in loose_parts(lap, lap_sizes[number]):
                    critical += 1
                    told = critical_price(lap, number, world, part)
                    here = threshold(world, found, part) if part in loose_parts(market, found) else 0
                    self.same(told, max(0, here))
                stock = best_stocks(world, lap_sizes[number])[0]
                heights = Table(lap, number, world).lowest() or Table(lap, number, world).highest()
                if heights is not None:
                    self.same(heights.is_rising(), True)
                    self.same(fits(lap, number, world, stock, heights), True)
                    self.same(fits(market, number, world, best_stocks(world, found)[0], heights), True)
        self.assertGreater(critical, 100)

    def test_other_demands(self):
        """For other demands than the same number everywhere it does not hold."""
        market, lap = Join(2, [(0, 2), (1, 2)]), Lap(2, [(0, 2), (1, 2)])
        self.same((stocks(market, (1, 0)), stocks(lap, (1, 0))), ([], [(0,), (0, 1)]))

    def test_least_price_of_one(self):
        """If all runs are useful, C_1 is the same in every world exactly if no two cross."""
        told = {True: 0, False: 0}
        for seed in range(200):
            size = 3 + seed // 2 % 3
            runs = plain_runs(seed, size) if seed % 2 else crossed_runs(seed // 2 * 2 + 1, size)
            useful = useful_runs(size, runs)
            if not useful or len(useful) > 8:
                continue
            crossed = crossing_pair(useful) is not None
            join, lap = Join(size, useful), Lap(size, useful)
            worlds = [random_world(seed + extra, join) for extra in range(3)]
            if crossed:
                # The two chains over the pair of runs are free, all other parts are dear.
                one, other = crossing_pair(useful)
                first = [chain for chain in chain_rows(useful, 0, one[0])][0] + (one,)
                last = (other,) + [chain for chain in chain_rows(useful, other[1], size)][0]
                worlds = [tuple(0 if run in first + last else 9 for run in useful)]
            same = all(best_price(world, stocks(join, 1)) == best_price(world, stocks(lap, 1)) for world in worlds)
            self.same(same, not crossed)
            told[crossed] += 1
        self.assertTrue(min(told.values()) > 20, told)


class MendingAndPossible(Case):
    """Promise 119: mending and possible stocks of markets that fold."""

    def markets(self, many):
        seed = told = 0
        while told < many:
            seed += 1
            chance = random.Random(seed)
            size = chance.randint(2, 4)
            market = market_over(seed, size, folding_runs(chance, 0, size, list(range(1, size))))
            if folding_of(market).folds and len(market.there()) <= 8:
                told += 1
                yield seed, market, stocks_by_size(market)

    def test_mending(self):
        rings = 0
        for seed, market, by_size in self.markets(150):
            world = random_world(seed, market)
            chance = random.Random(seed)
            for number, found in enumerate(by_size):
                stock = best_stocks(world, found)[0]
                lost = tuple(chance.sample(market.there(), min(2, len(market.there()))))
                rest = lost_stocks(found, lost)
                if not rest:
                    continue
                inside = set(lost) & set(stock)
                moves = [move for move in ring_moves(market, number, stock) if inside & set(move[0])
                         and sides(market, *move) is not None and not set(lost) & set(move[1])]
                if crossing_pair(market_runs(market)) is None:
                    moves = [move for move in moves if 1 in (len(move[0]), len(move[1]))]
                rings += bool(moves)
                ends = {(stock, (), 0)}
                for move in moves:
                    parts = move[0] + move[1]
                    ends |= {(behind(one, move), used + parts, count + 1) for one, used, count in ends
                             if not set(used) & set(parts)}
                best = best_stocks(world, rest)
                self.assertTrue(any(one in best and count <= len(inside) for one, _, count in ends))
                for outs, ins in mend_rings(market, number, world, stock, lost):
                    self.assertIsNotNone(sides(market, outs, ins))
        self.assertGreater(rings, 20)

    def test_possible_stocks(self):
        many = 0
        for seed, market, by_size in self.markets(50):
            notes = random_notes(seed, market, 60)
            plain = crossing_pair(market_runs(market)) is None
            for number in range(len(by_size)):
                possible = possible_stocks(market, number, notes)
                reached, waiting = [possible[0]], [possible[0]]
                while waiting:
                    stock = waiting.pop()
                    for move in ring_moves(market, number, stock):
                        other = behind(stock, move)
                        short = 1 in (len(move[0]), len(move[1]))
                        if other in possible and other not in reached and (not plain or short):
                            self.assertIsNotNone(sides(market, *move))
                            reached.append(other)
                            waiting.append(other)
                self.same(sorted(reached), possible)
                many += len(possible) > 2
        self.assertGreater(many, 10)

    def test_five(self):
        self.same(folding_of(Join(3, FIVE)).folds, False)
        self.same(price((1, 10, 1, 10, 1), (0, 2, 4)), 3)


if __name__ == "__main__":
    unittest.main()
