import itertools
import random
import unittest

from keptparts.errors import (
    BadDemand, BadNumber, BadPart, BadSet, IsGone, NoStock, NotJoin, SamePart, TooMany,
)
from keptparts.lengths import breaking_world, lengths_world
from keptparts.markets import Join, Lap
from support import (
    NO_INTEGERS, NO_ROWS, Case, behind, best_price, best_stocks, difference, lost_stocks, more_by, random_cases,
    random_world, ring_moves, sorted_pairs, stocks, walk_moves,
)

FAR = 10 ** 9


def losses(world, found, one, other):
    """What losing one part, the other one, and both costs; None counts as more than everything."""
    base = best_price(world, found)
    rows = [difference(best_price(world, lost_stocks(found, lost)), base) for lost in ((one,), (other,), (one, other))]
    return [FAR * FAR if row is None else row for row in rows]


def compared(world, found, one, other):
    """Whether losing both costs less than (-1), as much as (0), or more than (1) the sum; None equals None."""
    single, second, both = losses(world, found, one, other)
    total = min(single + second, FAR * FAR)
    return (both > total) - (both < total)


class Lengths(Case):
    """Promise 70: the world of lengths."""

    def test_rings(self):
        checked = 0
        for seed, market, demand, found in random_cases(60, kind=Join, most_parts=7):
            for stock in found[:3]:
                for outs, ins in ring_moves(market, demand, stock):
                    checked += 1
                    world = lengths_world(market, list(stock)[::-1], list(outs), list(ins))
                    other = behind(stock, (outs, ins))
                    self.assertEqual(best_stocks(world, found), sorted([stock, other]))
                    self.check_lengths(market, stock, outs + ins, world)
        self.assertGreater(checked, 100)

    def test_walks(self):
        checked = 0
        for seed, market, demand, found in random_cases(50, kind=Join, most_places=3):
            for stock in found[:2]:
                for c, d in itertools.permutations(range(market.size + 1), 2):
                    run, by = ((c, d), 1) if c < d else ((d, c), -1)
                    others = stocks(market, more_by(market, demand, run, by))
                    for move in walk_moves(market, demand, stock, c, d):
                        checked += 1
                        world = lengths_world(market, stock, *move)
                        self.assertEqual(best_stocks(world, found), [stock])
                        self.assertEqual(best_stocks(world, others), [behind(stock, move)])
        self.assertGreater(checked, 200)

    def check_lengths(self, market, stock, moved, world):
        self.assertIs(type(world), tuple)
        for part, (begin, end) in enumerate(market.runs):
            by = 0 if part in moved else -1 if part in stock else 1
            self.same(world[part], 0 if part in market.gone else end - begin + by)

    def test_in_words(self):
        market = Join(30, [(0, 30), (0, 1), (1, 30), (5, 6), (2, 9), (0, 30)], gone=[1, 4])
        self.same(lengths_world(market, [3, 0], [0], [5, 2]), (30, 0, 29, 0, 0, 30))
        self.same(lengths_world(market, [], [], []), (31, 0, 30, 2, 0, 31))
        # Gone parts may be in the stock, and among the outs.
        self.same(lengths_world(market, [1, 3, 4], [4], ()), (31, 0, 30, 0, 0, 31))
        self.same(lengths_world(Join(1, []), (), (), ()), ())
        many = Join(30, [(0, 30)] * 60)
        self.same(lengths_world(many, list(range(30)), [0], [59]), (30,) + (29,) * 29 + (31,) * 29 + (30,))

    def test_wrong(self):
        market = Join(2, [(0, 2), (0, 1), (1, 2), (0, 2), (0, 1)], gone=[3, 4])
        lap = Lap(2, market.runs, gone=[3, 4])
        bad = [(index, [0, 0], BadSet, {"place": 1}) for index in (1, 2, 3)]
        right = (market, [0], [0], [1, 2])
        self.order(lengths_world, right, [(0, lap, NotJoin, {})] + bad + [
            (3, [1, 4, 3], IsGone, {"part": 3}), (2, [1, 2], BadPart, {"part": 1}),
        ])
        self.fails(BadSet, {"place": 1}, lengths_world, market, [0, 9], [9], [1, 2, 9])
        self.fails(BadSet, {"place": 0}, lengths_world, market, [0], [9], [1, 2, 9])
        self.fails(BadPart, {"part": 0}, lengths_world, market, [0], [0], [0, 1])
        self.fails(BadPart, {"part": 1}, lengths_world, market, [0, 2], [1], [2])
        self.fails(BadPart, {"part": 1}, lengths_world, market, [0, 1], [2], [1])
        self.fails(IsGone, {"part": 4}, lengths_world, market, [0], [1], [4])
        for wrong in NO_ROWS:
            self.fails(BadSet, {"place": -1}, lengths_world, market, wrong, wrong, wrong)
            self.fails(BadSet, {"place": -1}, lengths_world, market, [0], wrong, wrong)
            self.fails(BadSet, {"place": -1}, lengths_world, market, [0], [0], wrong)

    def test_arguments_stay(self):
        market = Join(2, [(0, 2), (0, 1), (1, 2)])
        stock, outs, ins = [0], [0], [2, 1]
        first = lengths_world(market, stock, outs, ins)
        self.assertEqual((stock, outs, ins), ([0], [0], [2, 1]))
        self.same(first, lengths_world(market, (0,), (0,), (1, 2)))


class Breaking(Case):
    """Promise 78: worlds in which two losses cost less, or more, than each of them."""

    def test_small_markets(self):
        told = {}
        for seed, market, demand, found in random_cases(120, kind=Join, most_parts=7):
            together, opposed = sorted_pairs(market, demand, found)
            for one, other in itertools.permutations(market.there(), 2):
                for word, pairs, sign in (("with", together, -1), ("against", opposed, 1)):
                    world = breaking_world(market, demand, one, other, word)
                    wanted = (one, other) in pairs
                    told[word, wanted] = told.get((word, wanted), 0) + 1
                    self.same(world is not None, wanted)
                    if wanted:
                        self.assertIs(type(world), tuple)
                        self.assertEqual([len(world), min(world) >= 0], [market.many, True])
                        self.assertEqual(compared(world, found, one, other), sign)
                        prices = [best_price(world, lost_stocks(found, lost))
                                  for lost in ((one, other), (), (one,), (other,))]
                        if None not in prices:
                            self.assertEqual((prices[0] + prices[1] > prices[2] + prices[3]) * 2 - 1, sign)
                    for number in range(4):
                        random_prices = random_world(random.Random(seed + number).random(), market, 3)
                        if not wanted:
                            self.assertNotEqual(compared(random_prices, found, one, other), sign)
        self.assertTrue(len(told) == 4 and min(told.values()) > 30, told)

    def test_mixed(self):
        market = Join(3, [(0, 1), (1, 2), (2, 3), (0, 2), (1, 3), (0, 3)])
        found = stocks(market, 1)
        for word, sign in (("with", -1), ("against", 1)):
            self.assertEqual(compared(breaking_world(market, 1, 0, 2, word), found, 0, 2), sign)
        self.same(breaking_world(market, 1, 0, 1, "against"), None)

    def test_wrong(self):
        market = Join(2, [(0, 2), (0, 1), (1, 2), (0, 2)], gone=[3])
        lap = Lap(2, market.runs, gone=[3])
        right = (market, 1, 1, 2, "with")
        word = (4, "apart", BadNumber, {"name": "word"})
        for value, error in ((3, IsGone), (4, BadPart), (None, BadPart)):
            self.order(breaking_world, right, (
                (0, lap, NotJoin, {}), (1, 1.5, BadDemand, {"place": -1}), (2, value, error, {"part": value}),
                (3, value, error, {"part": value}), word, (1, 9, NoStock, {}),
            ))
        self.order(breaking_world, right, (
            (0, lap, NotJoin, {}), (1, [1], BadDemand, {"place": -1}), (3, 1, SamePart, {"part": 1}), word,
            (1, 9, NoStock, {}),
        ))
        for wrong in NO_INTEGERS + ("With", "", "mixed", ["with"], ("with",)):
            self.fails(BadNumber, {"name": "word"}, breaking_world, market, 9, 1, 2, wrong)
        many = Join(1, [(0, 1)] * 12, gone=[11])
        self.fails(TooMany, {"number": 11}, breaking_world, many, 1, 0, 1, "with")
        self.fails(NoStock, {}, breaking_world, many, 12, 0, 1, "with")
        few = many - [10]
        self.assertEqual(compared(breaking_world(few, 1, 0, 1, "against"), stocks(few, 1), 0, 1), 1)
        self.same(breaking_world(few, 1, 0, 1, "with"), None)
        demand = [1, 1]
        told = breaking_world(market, demand, 1, 2, "with")
        self.assertEqual(demand, [1, 1])
        self.same(told, breaking_world(market, 1, 1, 2, "with"))


if __name__ == "__main__":
    unittest.main()
