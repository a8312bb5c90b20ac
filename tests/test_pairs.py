import itertools
import random
import unittest

from keptparts.cheapest import price_of
from keptparts.errors import (
    BadDemand, BadNumber, BadPart, BadPoint, IsGone, NoStock, NotJoin, SamePart, TooMany,
)
from keptparts.lengths import lengths_world
from keptparts.markets import Join, Lap
from keptparts.pairs import (
    against_parts, against_ring, mixed_partner, sort_of, walk_over, with_parts, with_ring,
)
from keptparts.rings import is_ring, is_walk
from keptparts.tables import Table
from support import (
    NO_INTEGERS, Case, all_runs, all_sets, behind, covers, is_a_stock, loose_parts, more_by, random_cases,
    random_world, ring_moves, risen, row_of, sorted_pairs, stocks, threshold, walk_moves,
)

SIX = [(0, 1), (1, 2), (2, 3), (0, 2), (1, 3), (0, 3)]


def join_cases(many, **more):
    return random_cases(many, kind=Join, **more)


class Pairs(Case):
    """Promise 66: which parts are with and against one another."""

    def test_small_markets(self):
        sorts = {}
        for seed, market, demand, found in join_cases(150, most_parts=7):
            together, opposed = sorted_pairs(market, demand, found)
            for one in market.there():
                self.same(with_parts(market, demand, one), tuple(sorted(b for a, b in together if a == one)))
                self.same(against_parts(market, demand, one), tuple(sorted(b for a, b in opposed if a == one)))
                mixed = [b for a, b in together & opposed if a == one]
                self.same(mixed_partner(market, demand, one), min(mixed, default=None))
                for other in market.there():
                    if other == one:
                        continue
                    pair = (one, other)
                    word = {(True, False): "with", (False, True): "against", (True, True): "mixed",
                            (False, False): "apart"}[pair in together, pair in opposed]
                    self.same(sort_of(market, demand, one, other), word)
                    sorts[word] = sorts.get(word, 0) + 1
                    self.check_ring(market, demand, with_ring(market, demand, one, other), pair in together,
                                    (one, other), ())
                    self.check_ring(market, demand, against_ring(market, demand, one, other), pair in opposed,
                                    (one,), (other,))
                    if one not in loose_parts(market, found):
                        self.same(word, "apart")
        self.assertTrue(min(sorts[word] for word in ("with", "against", "apart")) > 40, sorts)

    def check_ring(self, market, demand, told, wanted, outs, ins):
        self.same(told is not None, wanted)
        if wanted:
            self.assertIs(type(told), tuple)
            self.assertTrue(set(outs) <= set(told[1]) and set(ins) <= set(told[2]))
            self.assertTrue(is_a_stock(market, demand, told[0]))
            self.same(is_ring(market, demand, *told), True)
            self.assertIn(told[1:], ring_moves(market, demand, told[0]))
            self.same(told[0], tuple(sorted(told[0])))

    def test_mixed_markets(self):
        """Promise 73: the least mixed market."""
        market = Join(3, SIX)
        self.same([sort_of(market, 1, 0, 2), sort_of(market, 1, 2, 0), sort_of(market, 2, 3, 4)], ["mixed"] * 3)
        self.same([mixed_partner(market, 1, part) for part in range(6)], [2, None, 0, None, None, None])
        self.same([mixed_partner(market, 2, part) for part in range(6)], [None, None, None, 4, 3, None])
        together, opposed = sorted_pairs(market, 1, stocks(market, 1))
        self.assertEqual(together & opposed, {(0, 2), (2, 0)})
        # Gone parts and several parts on one run.
        larger = Join(3, SIX + [(0, 2), (1, 3), (1, 3)], gone=[6, 8])
        self.same(sort_of(larger, 1, 0, 2), "mixed")
        self.same(sort_of(larger, 2, 4, 7), "against")

    def test_fewer_than_six_parts_are_never_mixed(self):
        """Promise 73."""
        for seed, market, demand, found in join_cases(200, most_parts=5):
            for part in market.there():
                self.assertIsNone(mixed_partner(market, demand, part))
        for gone in range(6):
            for demand in (1, 2):
                market = Join(3, SIX, gone=[gone])
                if stocks(market, demand):
                    self.same([mixed_partner(market, demand, part) for part in market.there()], [None] * 5)

    def test_touching_parts(self):
        """Promise 68."""
        for seed, market, demand, found in join_cases(80, most_parts=7):
            for one, other in itertools.permutations(market.there(), 2):
                (a, b), (c, d) = market.runs[one], market.runs[other]
                if a == c or b == d:
                    self.assertIsNone(with_ring(market, demand, one, other))
                if b == c:
                    self.assertIsNone(against_ring(market, demand, one, other))

    def test_ten_parts(self):
        market = Join(3, SIX * 2, gone=[0, 7])
        told = sort_of(market, 1, 2, 6)
        self.same(told, sort_of(market, 1, 6, 2))
        larger = Join(3, SIX * 2, gone=[7])
        for function, arguments in ((with_ring, (2, 6)), (against_ring, (2, 6)), (sort_of, (2, 6)), (with_parts, (2,)),
                                    (against_parts, (2,)), (mixed_partner, (2,)), (walk_over, ((0, 3), 2, 1))):
            self.fails(TooMany, {"number": 11}, function, larger, 1, *arguments)
            self.fails(NoStock, {}, function, larger, 20, *arguments)
            function(market, 1, *arguments)

    def test_equal_runs(self):
        market = Join(1, [(0, 1)] * 10)
        self.same(against_parts(market, 5, 3), (0, 1, 2, 4, 5, 6, 7, 8, 9))
        self.same(with_parts(market, 5, 3), ())
        self.same(against_parts(market, 10, 3), ())
        self.same(against_parts(market, 0, 3), ())
        self.same(with_ring(Join(2, [(0, 1), (1, 2), (0, 2)]), 1, 1, 0), ((0, 1), (0, 1), (2,)))


class Prices(Case):
    """Promise 67: pairs are prices."""

    def test_worlds_of_lengths(self):
        falls = rises = 0
        for seed, market, demand, found in join_cases(80, most_parts=7):
            for one, other in itertools.permutations(loose_parts(market, found), 2):
                for told, by in ((with_ring(market, demand, one, other), -1),
                                 (against_ring(market, demand, one, other), 1)):
                    if told is not None:
                        world = lengths_world(market, *told)
                        change = threshold(risen(world, other), found, one) - threshold(world, found, one)
                        self.same(change, by)
                        falls += by < 0
                        rises += by > 0
        self.assertTrue(falls > 30 and rises > 100)

    def test_all_small_worlds(self):
        """What never happens: a fall if the two are not with one another, a rise if not against."""
        for seed, market, demand, found in join_cases(25, most_parts=4, most_places=3):
            together, opposed = sorted_pairs(market, demand, found)
            for one in loose_parts(market, found):
                for other in market.there():
                    if other == one:
                        continue
                    changes = set()
                    for world in itertools.product(range(4), repeat=market.many):
                        changes.add(threshold(risen(world, other), found, one) - threshold(world, found, one))
                    self.assertEqual(min(changes) < 0, (one, other) in together)
                    self.assertEqual(max(changes) > 0, (one, other) in opposed)


class RingsThereAre(Case):
    """Promise 69."""

    def test_small_markets(self):
        for seed, market, demand, found in join_cases(40, most_parts=6):
            moves = {told for stock in found for told in ring_moves(market, demand, stock)}
            closed = self.closed_moves(market)
            row = row_of(market, demand)
            for outs, ins in closed:
                rest = market.lose(outs + ins)
                less = [number - count for number, count in zip(row, covers(market, outs))]
                some = stocks(rest, less)
                self.assertEqual((outs, ins) in moves, bool(some))
                for stock in some:
                    self.same(is_ring(market, demand, sorted(stock + outs), outs, ins), True)
            self.assertTrue(moves <= closed)

    def closed_moves(self, market):
        """The moves whose parts, in some order, give a closed walk that meets no point twice."""
        told = set()
        for outs in all_sets(market.there()):
            demand = covers(market, outs)
            # outs alone are a stock of their own cover.
            told |= {move for move in ring_moves(market, demand, outs) if move[0] == outs}
        return told


class WalksOver(Case):
    """Promise 71: walks over a part, and what prices do to tables."""

    def test_small_markets(self):
        told = {True: 0, False: 0}
        falls = 0
        for seed, market, demand, found in join_cases(60, most_places=3, most_parts=6):
            for first, last in itertools.permutations(range(market.size + 1), 2):
                moves = [move for stock in found for move in walk_moves(market, demand, stock, first, last)]
                for part in market.there():
                    for sign, side in ((-1, 0), (1, 1)):
                        walk = walk_over(market, demand, [first, last], part, sign)
                        wanted = any(part in move[side] for move in moves)
                        self.same(walk is not None, wanted)
                        told[wanted] += 1
                        if wanted:
                            stock, outs, ins = walk
                            self.assertTrue(is_a_stock(market, demand, stock))
                            self.same(is_walk(market, demand, stock, (first, last), outs, ins), True)
                            self.assertIn(part, walk[1 + side])
                            falls += self.check_prices(market, demand, found, (first, last), walk, part, sign)
        self.assertTrue(min(told.values()) > 100 and falls > 50)

    def check_prices(self, market, demand, found, points, walk, part, sign):
        """In the world of lengths the table changes by 1 as the price of the part rises."""
        world = lengths_world(market, *walk)
        before, after = Table(market, demand, world), Table(market, demand, risen(world, part))
        if points[0] < points[1]:
            self.same(after.more(points) - before.more(points), sign)
        else:
            run = points[::-1]
            self.same(after.less(run) - before.less(run), -sign)
        return True

    def test_what_never_happens(self):
        for seed, market, demand, found in join_cases(15, most_places=3, most_parts=4):
            worlds = list(itertools.product(range(3), repeat=market.many))
            for run in all_runs(market.size):
                for part in market.there():
                    more, less = set(), set()
                    for world in worlds:
                        before, after = Table(market, demand, world), Table(market, demand, risen(world, part))
                        if before.more(run) is not None:
                            more.add(after.more(run) - before.more(run))
                        if before.less(run) is not None:
                            less.add(after.less(run) - before.less(run))
                    for changes, points, sign in ((more, run, 1), (less, run[::-1], -1)):
                        falls = walk_over(market, demand, points, part, -sign) is not None
                        rises = walk_over(market, demand, points, part, sign) is not None
                        self.assertEqual((min(changes, default=0) < 0, max(changes, default=0) > 0), (falls, rises))

    def test_backwards(self):
        market = Join(2, [(0, 1), (1, 2), (0, 2)])
        self.same(walk_over(market, 1, (2, 0), 0, -1), ((0, 1), (0, 1), ()))
        self.same(walk_over(market, 1, (2, 0), 2, -1), ((2,), (2,), ()))
        self.same(walk_over(market, 1, (0, 1), 1, -1), ((0, 1), (1,), (2,)))
        self.same(walk_over(market, 1, (0, 1), 1, 1), None)
        self.same(walk_over(market, 0, (0, 2), 1, 1), ((), (), (0, 1)))


class OtherMarkets(Case):
    """Promises 74 and 75."""

    def test_lost_parts(self):
        for seed, market, demand, found in join_cases(50, most_parts=7):
            lost = market.there()[:1]
            rest = market.lose(lost)
            if stocks(rest, demand):
                for part in rest.there():
                    self.assertTrue(set(with_parts(rest, demand, part)) <= set(with_parts(market, demand, part)))
                    self.assertTrue(set(against_parts(rest, demand, part)) <= set(against_parts(market, demand, part)))

    def test_end_to_end(self):
        for seed, market, demand, found in join_cases(30, most_places=3, most_parts=5):
            other = Join(2, [(0, 1), (1, 2), (0, 2), (0, 1)])
            whole, row = market + other, row_of(market, demand) + (1, 1)
            for one in market.there():
                self.same(with_parts(whole, row, one), with_parts(market, demand, one))
                self.same(against_parts(whole, row, one), against_parts(market, demand, one))
            for one in range(4):
                wanted = tuple(part + market.many for part in against_parts(other, 1, one))
                self.same(against_parts(whole, row, market.many + one), wanted)

    def test_turned(self):
        for seed, market, demand, found in join_cases(40, most_parts=7):
            for one in market.there():
                row = row_of(market, demand)[::-1]
                self.same(with_parts(~market, row, one), with_parts(market, demand, one))
                self.same(against_parts(~market, row, one), against_parts(market, demand, one))

    def test_many_times(self):
        for seed, market, demand, found in join_cases(40, most_parts=5):
            row = [2 * number for number in row_of(market, demand)]
            for part in loose_parts(market, found):
                copy = part + market.many
                self.assertIn(sort_of(market * 2, row, part, copy), ("against", "mixed"))

    def test_four_prices(self):
        checked = 0
        for seed, market, demand, found in join_cases(40, most_places=3, most_parts=6):
            chance = random.Random(seed)
            for one, other in itertools.combinations(market.there(), 2):
                rest = market.lose((one, other))
                rows = [row_of(market, demand)]
                rows.append(more_by(market, rows[0], market.runs[one], -1))
                rows.append(more_by(market, rows[0], market.runs[other], -1))
                rows.append(more_by(market, rows[1], market.runs[other], -1))
                sort = sort_of(market, demand, one, other)
                worlds = [random_world(chance.random(), market) for _ in range(5)]
                for told in (with_ring(market, demand, one, other), against_ring(market, demand, one, other)):
                    if told is not None:
                        worlds.append(lengths_world(market, *told))
                signs = set()
                for world in worlds:
                    prices = [price_of(rest, row, world) for row in rows]
                    far = 10 ** 6
                    outer = far if None in (prices[0], prices[3]) else prices[0] + prices[3]
                    inner = far if None in (prices[1], prices[2]) else prices[1] + prices[2]
                    signs.add((outer > inner) - (outer < inner))
                checked += 1
                self.assertEqual(-1 in signs, sort in ("with", "mixed"))
                self.assertEqual(1 in signs, sort in ("against", "mixed"))
        self.assertGreater(checked, 100)

    def test_strangers(self):
        for seed, market, demand, found in join_cases(40, most_places=3, most_parts=5):
            for run in all_runs(market.size):
                whole, more = market.and_run(run), more_by(market, demand, run, 1)
                new = market.many
                many = stocks(whole, more)
                if not many:
                    continue
                world = random_world(seed, whole)
                if new in loose_parts(whole, many):
                    table = Table(market, demand, world[:-1])
                    self.same(table.more(run), threshold(world, many, new))
                same = stocks(whole, demand)
                if new in loose_parts(whole, same):
                    self.same(Table(market, demand, world[:-1]).less(run), threshold(world, same, new))
                for part in market.there():
                    self.same(with_ring(whole, more, new, part) is not None,
                              walk_over(market, demand, run, part, -1) is not None)
                    self.same(against_ring(whole, more, new, part) is not None,
                              walk_over(market, demand, run, part, 1) is not None)


class Wrong(Case):
    """Promises 1 and 2."""

    def test_orders(self):
        market = Join(2, [(0, 2), (0, 1), (1, 2), (0, 2)], gone=[3])
        lap = Lap(2, [(0, 2), (0, 1), (1, 2), (0, 2)], gone=[3])
        kind = (0, lap, NotJoin, {})
        demand = (1, [1, None], BadDemand, {"place": 1})
        none = (1, 9, NoStock, {})
        for value, error in ((3, IsGone), (4, BadPart), (True, BadPart)):
            one, other = ((index, value, error, {"part": value}) for index in (2, 3))
            same = (3, 1, SamePart, {"part": 1})
            for function in (with_ring, against_ring, sort_of):
                self.order(function, (market, 1, 1, 2), (kind, demand, one, other, none))
                self.order(function, (market, 1, 1, 2), (kind, demand, same, none))
            for function in (with_parts, against_parts, mixed_partner):
                self.order(function, (market, 1, 1), (kind, demand, one, none))
            self.order(walk_over, (market, 1, (0, 2), 1, 1), (
                kind, demand, (2, (0, 3), BadPoint, {"point": 3}), other, (4, 0, BadNumber, {"name": "sign"}), none,
            ))
        for function in (with_ring, against_ring, sort_of):
            self.fails(BadPart, {"part": 9}, function, market, 1, 9, 8)
            self.fails(BadPart, {"part": 9}, function, market, 1, 9, 3)
            self.fails(IsGone, {"part": 3}, function, market, 1, 3, 9)
            self.fails(IsGone, {"part": 3}, function, market, 1, 3, 3)

    def test_wrong_values(self):
        market = Join(2, [(0, 2), (0, 1), (1, 2), (0, 2)], gone=[3])
        for wrong in NO_INTEGERS + (-1, 4):
            for function in (with_ring, against_ring, sort_of):
                self.fails(BadPart, {"part": wrong}, function, market, 9, wrong, wrong)
                self.fails(BadPart, {"part": wrong}, function, market, 9, 1, wrong)
            for function in (with_parts, against_parts, mixed_partner):
                self.fails(BadPart, {"part": wrong}, function, market, 9, wrong)
            self.fails(BadPart, {"part": wrong}, walk_over, market, 9, (0, 2), wrong, 5)
        for sign in NO_INTEGERS + (0, 2, -2):
            self.fails(BadNumber, {"name": "sign"}, walk_over, market, 9, (0, 2), 1, sign)
        for run in (None, 5, "01", (0,), (0, 1, 2), {0, 1}):
            self.fails(BadPoint, {"point": run}, walk_over, market, 9, run, None, None)
        for run, point in (((0, 3), 3), ((-1, 3), -1), ((True, 0), True), ([0, None], None), ((2, 2), 2), ((0, 0), 0)):
            self.fails(BadPoint, {"point": point}, walk_over, market, 9, run, None, None)

    def test_arguments_stay(self):
        market = Join(3, SIX)
        demand, run = [1, 1, 1], [0, 3]
        first = (with_ring(market, demand, 0, 1), sort_of(market, demand, 0, 2), walk_over(market, demand, run, 0, -1),
                 with_parts(market, demand, 0))
        self.assertEqual((demand, run), ([1, 1, 1], [0, 3]))
        self.same(first, (with_ring(market, 1, 0, 1), sort_of(market, 1, 0, 2), walk_over(market, 1, (0, 3), 0, -1),
                          with_parts(market, 1, 0)))
        stock, outs, ins = first[0]
        self.assertTrue(is_a_stock(market, 1, behind(stock, (outs, ins))))


if __name__ == "__main__":
    unittest.main()
