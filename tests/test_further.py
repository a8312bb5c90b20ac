import itertools
import random
import unittest

from keptparts.cheapest import cheapest, price_of
from keptparts.errors import (
    BadDemand, BadPart, BadSet, BadWorld, IsGone, NoStock, NotAStock, NotJoin, SamePart, TooMany,
)
from keptparts.further import bears_rises, losses_of_two, lot_sorts, second_difference
from keptparts.lengths import breaking_world, lengths_world
from keptparts.losing import by_tables
from keptparts.markets import Join, Lap
from keptparts.pairs import sort_of, with_ring
from support import (
    NO_INTEGERS, NO_ROWS, Case, all_sets, best_price, best_stocks, covers, difference, great_market, lost_stocks,
    random_cases, random_stock, random_world, risen, row_of, sorted_pairs, stocks,
)

FAR = 10 ** 12


def far(amount):
    """None as more than everything."""
    return FAR if amount is None else amount


def total(one, other):
    return None if None in (one, other) else one + other


class TwoLosses(Case):
    """Promises 76 and 78."""

    def test_small_markets(self):
        none = 0
        for seed, market, demand, found in random_cases(100):
            world = random_world(seed, market)
            base = best_price(world, found)
            for one, other in itertools.permutations(market.there(), 2):
                wanted = tuple(difference(best_price(world, lost_stocks(found, lost)), base)
                               for lost in ((one,), (other,), (one, other)))
                self.same(losses_of_two(market, demand, list(world), one, other), wanted)
                none += wanted[2] is None and None not in wanted[:2]
        self.assertGreater(none, 20)

    def test_pairs(self):
        """Promise 78 (join)."""
        for seed, market, demand, found in random_cases(60, kind=Join, most_parts=7):
            world = random_world(seed, market)
            for one, other in itertools.combinations(market.there(), 2):
                sort = sort_of(market, demand, one, other)
                first, second, both = losses_of_two(market, demand, world, one, other)
                alone = total(first, second)
                if sort in ("against", "apart"):
                    self.assertGreaterEqual(far(both), far(alone))
                if sort in ("with", "apart"):
                    self.assertLessEqual(far(both), far(alone))
                for word, sign in (("with", -1), ("against", 1)):
                    told = breaking_world(market, demand, one, other, word)
                    if told is not None:
                        first, second, both = losses_of_two(market, demand, told, one, other)
                        self.assertGreater(sign * (far(both) - far(total(first, second))), 0)

    def test_great_markets(self):
        for seed in range(4):
            market = great_market(seed)
            _, demand = random_stock(seed, market)
            world = random_world(seed, market, 10 ** 30)
            one, other = random.Random(seed).sample(market.there(), 2)
            base = price_of(market, demand, world)
            wanted = tuple(difference(price_of(market.lose(lost), demand, world), base)
                           for lost in ((one,), (other,), (one, other)))
            self.same(losses_of_two(market, demand, world, one, other), wanted)


class Lots(Case):
    """Promise 79: sets of parts."""

    def test_small_markets(self):
        told = {}
        for seed, market, demand, found in random_cases(80, kind=Join, most_parts=7):
            together, opposed = sorted_pairs(market, demand, found)
            chance = random.Random(seed)
            for _ in range(6):
                lot = chance.sample(market.there(), chance.randint(0, len(market.there())))
                pairs = set(itertools.permutations(lot, 2))
                wanted = bool(pairs & together), bool(pairs & opposed)
                self.same(lot_sorts(market, demand, lot), wanted)
                told[wanted] = told.get(wanted, 0) + 1
                if len(lot) < 2:
                    self.same(wanted, (False, False))
        self.assertTrue(len(told) == 4 and min(told.values()) > 1, told)

    def test_second_differences(self):
        signs = {}
        for seed, market, demand, found in random_cases(60, kind=Join, most_places=3):
            lot = random.Random(seed).sample(market.there(), min(4, len(market.there())))
            sorts = lot_sorts(market, demand, lot)
            world = random_world(seed, market)
            for chosen in all_sets(lot):
                for less in all_sets(chosen):
                    for part in lot:
                        if part not in chosen:
                            one, two = second_difference(market, demand, world, less, chosen, part)
                            if not sorts[0]:
                                self.assertGreaterEqual(far(one), far(two))
                            if not sorts[1]:
                                self.assertLessEqual(far(one), far(two))
                            signs[sorts] = signs.get(sorts, 0) + 1
        self.assertTrue(len(signs) >= 3, signs)

    def test_apart(self):
        """If all are apart, losses add up; parts that begin or end at one point are not with one another."""
        for seed, market, demand, found in random_cases(60, kind=Join):
            for point in range(market.size + 1):
                for end in (0, 1):
                    lot = [part for part in market.there() if market.runs[part][end] == point]
                    self.same(lot_sorts(market, demand, lot)[0], False)
            world = random_world(seed, market)
            losses = by_tables(market, demand, world)
            base = best_price(world, found)
            for lot in all_sets(market.there()):
                if lot_sorts(market, demand, lot) == (False, False):
                    rows = [losses[part] for part in lot]
                    alone = None if None in rows else sum(rows)
                    self.same(difference(best_price(world, lost_stocks(found, lot)), base), alone)

    def test_worlds_that_break(self):
        """The other direction: a world in which it fails, with no part lost before and one behind."""
        for seed, market, demand, found in random_cases(60, kind=Join, most_parts=7):
            lot = market.there()
            sorts = lot_sorts(market, demand, lot)
            for word, wanted, sign in (("with", sorts[0], -1), ("against", sorts[1], 1)):
                broken = []
                for one, other in itertools.combinations(lot, 2):
                    world = breaking_world(market, demand, one, other, word)
                    if world is not None:
                        first, second = second_difference(market, demand, world, (), (one,), other)
                        broken.append(sign * (far(first) - far(second)) > 0)
                self.assertEqual(wanted, bool(broken))
                self.assertTrue(all(broken))

    def test_ten_parts(self):
        market = Join(1, [(0, 1)] * 12, gone=[11])
        for lot in ((), [1], [1, 2]):
            self.fails(TooMany, {"number": 11}, lot_sorts, market, 1, lot)
            self.fails(NoStock, {}, lot_sorts, market, 12, lot)
        self.same(lot_sorts(market - [10], 1, [1, 2]), (False, True))
        self.same(lot_sorts(market - [10], 10, [1, 2]), (False, False))


class Rises(Case):
    """Promise 80: rises at once."""

    def test_small_markets(self):
        told = {True: 0, False: 0}
        over = 0
        for seed, market, demand, found in random_cases(120):
            chance = random.Random(seed)
            world = random_world(seed, market)
            for stock in found[:5]:
                for _ in range(4):
                    rises = [chance.choice((0, 0, 1, chance.randint(0, 5))) for _ in market.runs]
                    after = [a + b for a, b in zip(world, rises)]
                    wanted = stock in best_stocks(after, found)
                    self.same(bears_rises(market, demand, list(world), list(stock)[::-1], rises), wanted)
                    told[wanted] += 1
                    over += wanted and covers(market, stock) != row_of(market, demand)
        self.assertTrue(min(told.values()) > 60 and over > 10)

    def test_rises_of_one_part(self):
        for seed, market, demand, found in random_cases(60):
            world = random_world(seed, market)
            stock = best_stocks(world, found)[-1]
            losses = by_tables(market, demand, world)
            for part in stock:
                for rise in {0, 3, max(0, far(losses[part]) - 1), far(losses[part]), far(losses[part]) + 1}:
                    rises = risen((0,) * market.many, part, rise)
                    wanted = losses[part] is None or rise <= losses[part]
                    self.same(bears_rises(market, demand, world, stock, rises), wanted)

    def test_rises_of_several_parts(self):
        """Join: without parts that are with one another each rise counts alone."""
        checked = 0
        for seed, market, demand, found in random_cases(80, kind=Join, most_parts=7):
            chance = random.Random(seed)
            world = random_world(seed, market)
            stock = chance.choice(best_stocks(world, found))
            losses = by_tables(market, demand, world)
            for lot in all_sets(stock):
                if lot_sorts(market, demand, lot)[0]:
                    continue
                rises = [0] * market.many
                for part in lot:
                    rises[part] = chance.randint(0, min(6, far(losses[part]) + 1))
                alone = all(losses[part] is None or rises[part] <= losses[part] for part in lot)
                self.same(bears_rises(market, demand, world, stock, rises), alone)
                checked += len(lot) > 1
        self.assertGreater(checked, 30)

    def test_with_one_another(self):
        """Join: two parts that are with one another, and rises that are borne alone and not together."""
        checked = 0
        for seed, market, demand, found in random_cases(80, kind=Join, most_parts=7):
            for one, other in itertools.combinations(market.there(), 2):
                told = with_ring(market, demand, one, other)
                if told is None:
                    continue
                stock, outs, ins = told
                world = lengths_world(market, stock, outs, ins)
                world = risen(world, ins[0])
                checked += 1
                self.same(bears_rises(market, demand, world, stock, [0] * market.many), True)
                rises = [risen((0,) * market.many, part) for part in (one, other)]
                self.same([bears_rises(market, demand, world, stock, rise) for rise in rises], [True, True])
                both = [a + b for a, b in zip(*rises)]
                self.same(bears_rises(market, demand, world, stock, both), False)
        self.assertGreater(checked, 5)

    def test_great_markets(self):
        for seed in range(6):
            market = great_market(seed)
            _, demand = random_stock(seed, market)
            world = random_world(seed, market, 10 ** 30)
            stock = cheapest(market, demand, world)
            losses = by_tables(market, demand, world)
            for part in stock[::5]:
                loss = losses[part]
                for rise in (10 ** 30, 0) if loss is None else (loss, loss + 1):
                    rises = risen((0,) * 60, part, rise)
                    self.same(bears_rises(market, demand, world, stock, rises), loss is None or rise <= loss)


class Second(Case):
    """Promise 79: what second_difference compares, for both kinds."""

    def test_small_markets(self):
        none = {}
        for seed, market, demand, found in random_cases(60, most_parts=5):
            world = random_world(seed, market)
            for more in all_sets(market.there()):
                for less in all_sets(more):
                    for part in market.there():
                        if part in more:
                            continue
                        rows = [best_price(world, lost_stocks(found, lost))
                                for lost in (more + (part,), less, less + (part,), more)]
                        wanted = total(rows[0], rows[1]), total(rows[2], rows[3])
                        told = second_difference(market, demand, list(world), list(less)[::-1], list(more)[::-1], part)
                        self.same(told, wanted)
                        key = tuple(amount is None for amount in wanted)
                        none[key] = none.get(key, 0) + 1
        self.assertTrue(len(none) >= 3 and none[False, False] > 100)

    def test_great_markets(self):
        for seed in range(4):
            market = great_market(seed)
            _, demand = random_stock(seed, market)
            world = random_world(seed, market, 10 ** 30)
            a, b, c, d = random.Random(seed).sample(market.there(), 4)
            rows = [price_of(market.lose(lost), demand, world) for lost in ([a, b, c, d], [a], [a, d], [a, b, c])]
            self.same(second_difference(market, demand, world, [a], [c, a, b], d),
                      (total(rows[0], rows[1]), total(rows[2], rows[3])))


class Wrong(Case):
    """Promises 1 and 2."""

    def markets(self):
        return [kind(2, [(0, 2), (0, 1), (1, 2), (0, 2), (0, 1)], gone=[3, 4]) for kind in (Join, Lap)]

    def test_orders(self):
        demand = (1, [1, None], BadDemand, {"place": 1})
        world = (2, [1, 2, 3, 4, -5], BadWorld, {"place": 4})
        none = (1, 9, NoStock, {})
        row = (1, 2, 3, 4, 5)
        for market in self.markets():
            for value, error in ((3, IsGone), (5, BadPart), (True, BadPart)):
                one, other, last = ((index, value, error, {"part": value}) for index in (3, 4, 5))
                same = (4, 1, SamePart, {"part": 1})
                self.order(losses_of_two, (market, 1, row, 1, 2), (demand, world, one, other, none))
                self.order(losses_of_two, (market, 1, row, 1, 2), (demand, world, same, none))
                for bad, gone in (((0, 0), BadSet), ((0, 4, 3), IsGone)):
                    fields = {"place": 1} if gone is BadSet else {"part": 3}
                    self.order(second_difference, (market, 1, row, (0,), (0, 2), 1), (
                        demand, world, (3, bad, gone, fields), (4, bad, gone, fields), last, none,
                        (3, [1], BadSet, {"place": 0}), (5, 2, BadPart, {"part": 2}),
                    ))
            for no_stock, place in (([1], 1), ([3], -1)):
                self.order(bears_rises, (market, 1, row, [0], row), (
                    demand, world, (3, [0, 0], BadSet, {"place": 1}), (4, [1, 2, -3, 4, 5], BadWorld, {"place": 2}),
                    (3, no_stock, NotAStock, {"place": place}),
                ))
        join, lap = self.markets()
        kind = (0, lap, NotJoin, {})
        self.order(lot_sorts, (join, 1, [1, 2]), (kind, demand, (2, [0, 5], BadSet, {"place": 1}), none))
        self.order(lot_sorts, (join, 1, [1, 2]), (kind, demand, (2, [0, 4, 3], IsGone, {"part": 3}), none))
        self.fails(NotJoin, {}, lot_sorts, lap, 1, [])

    def test_two_wrong_arguments(self):
        row = (1, 2, 3, 4, 5)
        for market in self.markets():
            self.fails(BadPart, {"part": 9}, losses_of_two, market, 1, row, 9, 8)
            self.fails(BadPart, {"part": 9}, losses_of_two, market, 1, row, 9, 3)
            self.fails(IsGone, {"part": 3}, losses_of_two, market, 1, row, 3, 9)
            self.fails(BadSet, {"place": 1}, second_difference, market, 1, row, [0, 9], [9], 9)
            self.fails(BadSet, {"place": 1}, second_difference, market, 1, row, [0, 9], [3], 3)
            self.fails(IsGone, {"part": 3}, second_difference, market, 1, row, [0, 3], [9], 9)
            self.fails(IsGone, {"part": 4}, second_difference, market, 1, row, [0, 2], [4], 3)

    def test_places_of_less(self):
        for market in self.markets():
            row = (1, 2, 3, 4, 5)
            for less, place in (([2, 0, 1], 1), ((0, 2), 0), ([2, 1, 0], 1), ([1], 0)):
                self.fails(BadSet, {"place": place}, second_difference, market, 1, row, less, [2], 2)
            self.fails(BadPart, {"part": 2}, second_difference, market, 1, row, [2], [2], 2)
            self.fails(NoStock, {}, second_difference, market, 4, row, [0], [2], 2)

    def test_wrong_values(self):
        for market in self.markets():
            row = (1, 2, 3, 4, 5)
            for wrong in NO_INTEGERS + (-1, 5):
                self.fails(BadPart, {"part": wrong}, losses_of_two, market, 9, row, wrong, wrong)
                self.fails(BadPart, {"part": wrong}, losses_of_two, market, 9, row, 0, wrong)
                self.fails(BadPart, {"part": wrong}, second_difference, market, 9, row, (), (), wrong)
            for wrong in NO_ROWS:
                self.fails(BadWorld, {"place": -1}, bears_rises, market, 1, row, [0], wrong)
                self.fails(BadSet, {"place": -1}, second_difference, market, 1, row, wrong, wrong, 9)
                self.fails(BadSet, {"place": -1}, second_difference, market, 1, row, (), wrong, 9)

    def test_arguments_stay(self):
        for market in self.markets():
            demand, world, stock, rises = [1, 1], [3, 1, 1, 0, 0], [2, 1], [0, 1, 0, 0, 0]
            less, more = [2], [2, 0]
            first = (losses_of_two(market, demand, world, 0, 1), bears_rises(market, demand, world, stock, rises),
                     second_difference(market, demand, world, less, more, 1))
            self.assertEqual((demand, world, stock, rises, less, more),
                             ([1, 1], [3, 1, 1, 0, 0], [2, 1], [0, 1, 0, 0, 0], [2], [2, 0]))
            world = (3, 1, 1, 0, 0)
            self.same(first, (losses_of_two(market, 1, world, 0, 1), bears_rises(market, 1, world, (1, 2), tuple(rises)),
                              second_difference(market, 1, world, (2,), (0, 2), 1)))
        join = self.markets()[0]
        lot = [2, 1]
        self.same((lot_sorts(join, 1, lot), lot), (lot_sorts(join, 1, (1, 2)), [2, 1]))
        self.assertEqual(len(stocks(join, 1)), 2)


if __name__ == "__main__":
    unittest.main()
