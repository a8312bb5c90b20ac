import itertools
import random
import unittest

from keptparts.covers import is_stock
from keptparts.errors import BadNumber, BadSet
from keptparts.halving import halves, lots, remade
from keptparts.markets import Join, Lap
from support import NO_INTEGERS, NO_ROWS, Case, all_sets, covers, is_a_stock, random_market, stocks


def great_market(seed, kind):
    chance = random.Random(seed)
    runs = [tuple(sorted(chance.sample(range(31), 2))) for _ in range(60)]
    return kind(30, runs, gone=chance.sample(range(60), 5))


class Halves(Case):
    """Promise 8."""

    def check(self, market, parts):
        told = halves(market, parts)
        self.assertIs(type(told), tuple)
        one, other = told
        for half in told:
            self.same(half, tuple(sorted(half)))
        self.same(tuple(sorted(one + other)), tuple(sorted(parts)))
        pairs = zip(covers(market, one), covers(market, other))
        self.assertTrue(all(abs(count - number) <= 1 for count, number in pairs))

    def test_small(self):
        for seed in range(150):
            market = random_market(seed, None, 6, 7)
            for chosen in all_sets(range(market.many)):
                self.check(market, chosen)

    def test_great(self):
        for seed in range(40):
            market = great_market(seed, (Join, Lap)[seed % 2])
            chance = random.Random(seed)
            self.check(market, chance.sample(range(60), chance.randint(0, 60)))
            self.check(market, list(range(60)))

    def test_empty(self):
        self.same(halves(Join(1, []), []), ((), ()))

    def test_many_on_one_run(self):
        one, other = halves(Lap(2, [(0, 2)] * 6, gone=[0, 1]), [0, 1, 2, 3, 4, 5])
        self.assertEqual((len(one), len(other)), (3, 3))


class Lots(Case):
    """Promise 9."""

    def check(self, market, parts, number):
        told = lots(market, parts, number)
        self.assertIs(type(told), list)
        self.assertEqual(len(told), number)
        for lot in told:
            self.same(lot, tuple(sorted(lot)))
        self.same(tuple(sorted(itertools.chain(*told))), tuple(sorted(parts)))
        whole = covers(market, parts)
        rows = [covers(market, lot) for lot in told]
        for place in range(market.size):
            low, more = divmod(whole[place], number)
            counts = sorted(row[place] for row in rows)
            self.assertEqual(counts, [low] * (number - more) + [low + 1] * more)

    def test_small(self):
        for seed in range(100):
            market = random_market(seed, None, 6, 7)
            chance = random.Random(seed)
            for number in (1, 2, 3, 4, 7, 50):
                self.check(market, chance.sample(range(market.many), chance.randint(0, market.many)), number)

    def test_great(self):
        for seed in range(30):
            market = great_market(seed, (Join, Lap)[seed % 2])
            for number in (1, 2, 3, 5, 8, 20, 49, 50):
                self.check(market, list(range(60)), number)

    def test_lots_of_a_stock(self):
        for seed in range(60):
            market = random_market(seed, None, 3, 8)
            for k in (1, 2, 3):
                for stock in stocks(market, k)[:5]:
                    told = lots(market, stock, k)
                    for chosen in all_sets(range(k)):
                        parts = [part for i in chosen for part in told[i]]
                        self.same(is_stock(market, len(chosen), parts), True)

    def test_wrong_number(self):
        market = Join(2, [(0, 1)])
        for number in NO_INTEGERS + (0, -1, 51):
            self.fails(BadNumber, {"name": "number"}, lots, market, [0], number)
            self.fails(BadSet, {"place": 0}, lots, market, [1], number)


class Remade(Case):
    """Promise 10."""

    def check(self, market, one, other):
        told = remade(market, one, other)
        self.assertIs(type(told), tuple)
        for half in told:
            self.same(half, tuple(sorted(set(half))))
        self.assertEqual(sorted(told[0] + told[1]), sorted(tuple(one) + tuple(other)))
        pairs = zip(covers(market, told[0]), covers(market, told[1]))
        self.assertTrue(all(abs(count - number) <= 1 for count, number in pairs))
        return told

    def test_small(self):
        for seed in range(60):
            market = random_market(seed, None, 4, 5)
            for one, other in itertools.product(all_sets(range(market.many)), repeat=2):
                self.check(market, one, other)

    def test_great(self):
        for seed in range(30):
            market = great_market(seed, (Join, Lap)[seed % 2])
            chance = random.Random(seed)
            self.check(market, chance.sample(range(60), 40), chance.sample(range(60), 30))

    def test_stocks_of_neighbours(self):
        checked = 0
        for seed in range(80):
            market = random_market(seed, None, 3, 6)
            chance = random.Random(seed)
            demand = [chance.randint(0, 1) for _ in range(market.size)]
            run = sorted(chance.sample(range(market.size + 1), 2))
            more = [number + (run[0] <= place < run[1]) for place, number in enumerate(demand)]
            less = [number - (run[0] <= place < run[1]) for place, number in enumerate(demand)]
            for one in stocks(market, more)[:6]:
                for other in stocks(market, less)[:6]:
                    for half in self.check(market, one, other):
                        self.assertTrue(is_a_stock(market, demand, half))
                        checked += 1
        self.assertGreater(checked, 50)


class WrongSets(Case):
    """The errors of the module, and that gone parts count as others do."""

    def test_wrong_sets(self):
        functions = (
            halves, lambda market, parts: lots(market, parts, None),
            lambda market, parts: remade(market, parts, None), lambda market, parts: remade(market, [0], parts),
        )
        for kind in (Join, Lap):
            market = kind(3, [(0, 1), (1, 3), (0, 3)], gone=[2])
            for function in functions:
                for parts in NO_ROWS:
                    self.fails(BadSet, {"place": -1}, function, market, parts)
                for part in NO_INTEGERS + (-1, 3):
                    self.fails(BadSet, {"place": 1}, function, market, [2, part])
                self.fails(BadSet, {"place": 1}, function, market, (1, 1))

    def test_arguments_stay(self):
        market = Lap(3, [(0, 1), (1, 3), (0, 3), (0, 3)], gone=[2])
        one, other = [3, 0, 2], [1, 2]
        first = (halves(market, one), lots(market, one, 2), remade(market, one, other))
        self.assertEqual((one, other), ([3, 0, 2], [1, 2]))
        again = (halves(market, tuple(one)), lots(market, tuple(one), 2), remade(market, (3, 0, 2), (1, 2)))
        self.same(first, again)
        first[1].append(())
        self.assertEqual(len(lots(market, one, 2)), 2)


if __name__ == "__main__":
    unittest.main()
