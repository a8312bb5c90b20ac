import random
import unittest

from keptparts.covers import is_stock
from keptparts.errors import BadNumber, BadSet, NotJoin
from keptparts.halving import shares
from keptparts.markets import Join, Lap, beside, end_to_end
from support import NO_INTEGERS, NO_ROWS, Case, all_sets, is_a_stock, random_market

ONE = ((0, 2), (1, 3), (0, 3))
TWO = ((0, 1), (1, 2), (0, 2))


class Shapes(Case):
    """Promise 11: turned, end to end, beside, many times."""

    def parts(self, market):
        return market.size, market.runs, market.gone

    def test_turned(self):
        for kind in (Join, Lap):
            market = ~kind(3, ONE, gone=[1])
            self.assertIs(type(market), kind)
            self.same(self.parts(market), (3, ((1, 3), (0, 2), (0, 3)), (1,)))

    def test_end_to_end(self):
        for kind in (Join, Lap):
            market = kind(3, ONE, gone=[1]) + kind(2, TWO, gone=[0, 2])
            self.assertIs(type(market), kind)
            self.same(self.parts(market), (5, ONE + ((3, 4), (4, 5), (3, 5)), (1, 3, 5)))

    def test_beside(self):
        market = Join(3, ONE, gone=[1]) | Join(2, TWO, gone=[0, 2])
        self.assertIs(type(market), Join)
        self.same(self.parts(market), (4, ((0, 2), (1, 4), (0, 4), (0, 3), (3, 4), (0, 4)), (1, 3, 5)))

    def test_beside_with_one_place(self):
        self.same(self.parts(Join(1, [(0, 1)]) | Join(3, ONE)), (3, ((0, 3), (0, 2), (1, 3), (0, 3)), ()))
        self.same(self.parts(Join(3, ONE) | Join(1, [(0, 1)])), (3, ((0, 2), (1, 3), (0, 3), (0, 3)), ()))
        self.same(self.parts(Join(1, [(0, 1)]) | Join(1, [(0, 1)])), (1, ((0, 1), (0, 1)), ()))

    def test_many_times(self):
        for kind in (Join, Lap):
            market = kind(3, ONE, gone=[0, 2]) * 3
            self.assertIs(type(market), kind)
            self.same(self.parts(market), (3, ONE * 3, (0, 2, 3, 5, 6, 8)))
            self.same(kind(3, ONE, gone=[1]) * 1 == kind(3, ONE, gone=[1]), True)
            self.same((kind(2, []) * 5).many, 0)

    def test_wrong_times(self):
        for kind in (Join, Lap):
            for times in NO_INTEGERS + (0, -1):
                self.fails(BadNumber, {"name": "times"}, kind(3, ONE).__mul__, times)
                self.fails(BadNumber, {"name": "times"}, lambda: kind(3, ONE) * times)

    def test_kinds_must_agree(self):
        join, lap = Join(3, ONE), Lap(3, ONE)
        long_join, long_lap = Join(30, []), Lap(30, [])
        for one, other in ((join, lap), (lap, join), (long_join, long_lap), (long_lap, long_join)):
            self.fails(NotJoin, {}, lambda: one + other)
            self.fails(NotJoin, {}, lambda: one | other)
        self.fails(NotJoin, {}, lambda: lap | lap)
        self.fails(NotJoin, {}, lambda: long_lap | long_lap)

    def test_greatest_sizes(self):
        for kind in (Join, Lap):
            self.same((kind(15, []) + kind(15, [])).size, 30)
            self.fails(BadNumber, {"name": "size"}, lambda: kind(15, []) + kind(16, []))
        self.same((Join(15, []) | Join(16, [])).size, 30)
        self.fails(BadNumber, {"name": "size"}, lambda: Join(16, []) | Join(16, []))

    def test_rows_of_markets(self):
        one, two, three = Join(1, [(0, 1)]), Join(2, TWO, gone=[1]), Join(3, ONE)
        self.assertIs(end_to_end(one), one)
        self.assertIs(beside(one), one)
        self.same(end_to_end(one, two, three) == (one + two) + three, True)
        self.same(beside(one, two, three) == (one | two) | three, True)
        self.same(end_to_end(Lap(2, TWO), Lap(3, ONE)) == Lap(2, TWO) + Lap(3, ONE), True)

    def test_rows_of_markets_fail_from_the_left(self):
        join, lap = Join(16, []), Lap(3, [])
        self.fails(BadNumber, {"name": "size"}, end_to_end, join, join, lap)
        self.fails(NotJoin, {}, end_to_end, join, lap, join, join)
        self.fails(BadNumber, {"name": "size"}, beside, join, join, lap)
        self.fails(NotJoin, {}, beside, join, lap, join)
        self.fails(NotJoin, {}, beside, lap, lap)
        self.assertIs(beside(lap), lap)

    def test_operands_stay(self):
        one, two = Join(3, ONE, gone=[1]), Join(2, TWO, gone=[0])
        for _ in (one + two, one | two, ~one, one * 2, one - [0], one.keep([0]), one.and_run((0, 1))):
            self.same(self.parts(one), (3, ONE, (1,)))
            self.same(self.parts(two), (2, TWO, (0,)))


class StocksOfShapes(Case):
    """Promises 12 and 13: the stocks of combined markets."""

    def test_turned(self):
        for seed in range(60):
            market = random_market(seed)
            chance = random.Random(seed)
            self.same(~(~market) == market, True)
            demand = [chance.randint(0, 2) for _ in range(market.size)]
            for chosen in all_sets(range(market.many)):
                self.same(is_stock(~market, demand[::-1], chosen), is_stock(market, demand, chosen))

    def test_end_to_end(self):
        for seed in range(40):
            kind = (Join, Lap)[seed % 2]
            one = random_market(seed, kind, 3, 4)
            two = random_market(seed + 1000, kind, 3, 3)
            whole = one + two
            chance = random.Random(seed)
            first = [chance.randint(0, 2) for _ in range(one.size)]
            second = [chance.randint(0, 1) for _ in range(two.size)]
            for chosen in all_sets(range(whole.many)):
                left = [part for part in chosen if part < one.many]
                right = [part - one.many for part in chosen if part >= one.many]
                wanted = is_a_stock(one, first, left) and is_a_stock(two, second, right)
                self.same(is_stock(whole, first + second, chosen), wanted)

    def test_beside(self):
        for seed in range(40):
            one = random_market(seed, Join, 3, 4)
            two = random_market(seed + 1000, Join, 3, 3)
            whole = one | two
            for chosen in all_sets(range(whole.many)):
                left = [part for part in chosen if part < one.many]
                right = [part - one.many for part in chosen if part >= one.many]
                for k in range(4):
                    wanted = any(is_a_stock(one, i, left) and is_a_stock(two, k - i, right) for i in range(k + 1))
                    self.same(is_stock(whole, k, chosen), wanted)

    def test_many_times(self):
        for seed in range(40):
            market = random_market(seed, None, 3, 3)
            times = random.Random(seed).randint(1, 2)
            whole = market * times
            demand = random.Random(seed).randint(0, 2)
            for chosen in all_sets(range(whole.many)):
                told = shares(market, times, chosen)
                self.assertEqual(len(told), times)
                again = [part + copy * market.many for copy, share in enumerate(told) for part in share]
                self.same(tuple(again), chosen)
                counts = [0] * market.size
                for share in told:
                    for part in share:
                        for place in range(*market.runs[part]):
                            counts[place] += 1
                whole_parts = not any(part in market.gone for share in told for part in share)
                if market.KIND == "join":
                    wanted = whole_parts and all(count == demand for count in counts)
                else:
                    wanted = whole_parts and all(count >= demand for count in counts)
                self.same(is_stock(whole, demand, chosen), wanted)

    def test_lost_parts(self):
        for seed in range(40):
            market = random_market(seed, None, 3, 4)
            for lost in all_sets(range(market.many)):
                for demand in (0, 1):
                    for chosen in all_sets(range(market.many)):
                        wanted = is_a_stock(market, demand, chosen) and not set(lost) & set(chosen)
                        self.same(is_stock(market - lost, demand, chosen), wanted)


class Shares(Case):
    """Promise 12: the shares of the copies."""

    def test_shares(self):
        market = Join(3, ONE, gone=[1])
        self.same(shares(market, 3, [8, 0, 1, 5]), [(0, 1), (2,), (2,)])
        self.same(shares(market, 2, ()), [(), ()])
        self.same(shares(Lap(2, []), 2, []), [(), ()])
        self.same(shares(market, 1, [2, 1]), [(1, 2)])

    def test_wrong(self):
        market = Join(3, ONE)
        for times in NO_INTEGERS + (0, -1):
            self.fails(BadNumber, {"name": "times"}, shares, market, times, None)
        for parts in NO_ROWS:
            self.fails(BadSet, {"place": -1}, shares, market, 2, parts)
        for part in NO_INTEGERS + (6, -1, 5):
            self.fails(BadSet, {"place": 1}, shares, market, 2, [5, part])

    def test_new_list(self):
        market = Join(3, ONE)
        parts = [0, 4]
        told = shares(market, 2, parts)
        told[0] = "changed"
        self.assertEqual(parts, [0, 4])
        self.same(shares(market, 2, parts), [(0,), (1,)])


if __name__ == "__main__":
    unittest.main()
