import itertools
import random
import unittest

from keptparts.cheapest import cheapest
from keptparts.cuts import strength
from keptparts.errors import BadNumber, BadSet, NotAStock, NotJoin, TooMany
from keptparts.growing import going_back, grows, grows_at, stock_left
from keptparts.lengths import lengths_world
from keptparts.markets import Join, Lap
from keptparts.notes import Notes
from keptparts.pairs import with_parts
from keptparts.rings import is_walk
from keptparts.safety import is_safe
from support import (
    NO_INTEGERS, NO_ROWS, Case, agreeing, all_runs, all_sets, back_givers, best_price, best_stocks, far, great_ways,
    is_a_stock, lost_stocks, random_market, random_notes, random_world, risen, stocks, stocks_by_size, threshold,
)

FIVE = [(0, 1), (0, 2), (1, 2), (1, 3), (2, 3)]
# It grows at 2 and not at 1.
SEVEN = [(0, 1), (0, 1), (0, 2), (1, 2), (1, 3), (2, 3), (2, 3)]


def join_markets(many, least=1, **more):
    """Random join markets of at least this strength, with all their stocks by size."""
    seed = told = 0
    while told < many:
        seed += 1
        market = random_market(seed, Join, **more)
        by_size = stocks_by_size(market)
        if len(by_size) > least:
            told += 1
            yield seed, market, by_size


def flat_markets(many):
    """Join markets over three places with strength 2 or more; about half of them do not grow."""
    for seed in range(many):
        chance = random.Random(seed)
        runs = FIVE + [chance.choice(FIVE + [(0, 3)]) for _ in range(chance.randint(0, 2))]
        if seed % 3 == 0:
            runs.remove(chance.choice(FIVE))
        chance.shuffle(runs)
        market = Join(3, runs, gone=[chance.randrange(len(runs))] if seed % 5 == 0 else [])
        by_size = stocks_by_size(market)
        if len(by_size) > 2:
            yield seed, market, by_size


class Growing(Case):
    """Promises 92 and 95: whether a market grows."""

    def check_market(self, market, by_size, told):
        sizes = len(by_size) - 1
        flags = []
        for number in range(sizes):
            wanted = back_givers(market, by_size, number)
            flags.append(not wanted)
            self.same(grows_at(market, number), not wanted)
            found = going_back(market, number)
            self.same(found is None, not wanted)
            if found is not None:
                stock, outs, ins = found
                self.assertIn(stock, by_size[number])
                self.assertTrue(outs)
                self.assertIn((outs, ins), [other[1:] for other in wanted if other[0] == stock])
                self.same(is_walk(market, number, stock, (0, market.size), outs, ins), True)
                self.same(tuple(type(item) for item in found), (tuple,) * 3)
            told[not wanted] += number > 0
        self.same(flags[:1], [True][:sizes])
        self.same(grows(market), all(flags))
        # From 1-stocks alone: a market that grows at 1 grows at each size.
        self.same(grows(market), sizes <= 1 or flags[1])

    def test_small_markets(self):
        told = {True: 0, False: 0}
        for seed, market, by_size in join_markets(150, 0, most_parts=7):
            self.check_market(market, by_size, told)
        for seed, market, by_size in flat_markets(60):
            self.check_market(market, by_size, told)
        self.assertTrue(min(told.values()) > 20, told)

    def test_growing_above_one_alone(self):
        market = Join(3, SEVEN)
        self.same([grows_at(market, number) for number in range(3)], [True, False, True])
        self.same(grows(market), False)

    def test_strength(self):
        for market in (Join(2, []), Join(2, [(0, 1)]), Join(1, [(0, 1)], gone=[0])):
            self.same(grows(market), True)
            for number in (0, 1, 2):
                self.fails(BadNumber, {"name": "number"}, grows_at, market, number)
                self.fails(BadNumber, {"name": "number"}, going_back, market, number)
        one = Join(2, [(0, 1), (1, 2), (0, 1)])
        self.same((grows(one), grows_at(one, 0), going_back(one, 0)), (True, True, None))
        self.fails(BadNumber, {"name": "number"}, grows_at, one, 1)
        self.fails(BadNumber, {"name": "number"}, grows_at, Join(3, FIVE), 2)

    def test_gone_parts(self):
        market = Join(3, FIVE + [(0, 3)] * 9, gone=[0] + list(range(5, 14)))
        self.same(grows(market), True)
        self.same(grows(Join(3, [(0, 3)] * 7 + FIVE, gone=list(range(7)))), False)
        self.same(going_back(Join(3, [(0, 3)] * 7 + FIVE, gone=list(range(7))), 1), ((7, 9, 11), (9,), (8, 10)))

    def test_ten_parts(self):
        market = Join(3, FIVE + [(0, 1)] * 6, gone=[10])
        self.same(grows(market), False)
        self.same(grows_at(market, 0), True)
        larger = market.and_run((1, 2))
        for number in (0, 1):
            self.fails(TooMany, {"number": 11}, grows_at, larger, number)
            self.fails(TooMany, {"number": 11}, going_back, larger, number)
        self.fails(BadNumber, {"name": "number"}, grows_at, larger, 2)
        self.fails(TooMany, {"number": 11}, grows, larger)
        for runs in ([(0, 1)] * 11, [(0, 1)] * 10 + [(1, 2)]):
            self.fails(TooMany, {"number": 11}, grows, Join(2, runs))


class NineStatements(Case):
    """Promise 93."""

    def cases(self):
        for seed, market, by_size in itertools.chain(flat_markets(40), join_markets(40, 1, most_parts=6)):
            for number in range(len(by_size) - 1):
                yield seed, market, by_size, number

    def test_stocks_of_two_sizes(self):
        """Statement (6), over all stocks of the two sizes."""
        told = {True: 0, False: 0}
        for seed, market, by_size, number in self.cases():
            ways = [set(way) for way in by_size[1]]
            wanted = all(any(way <= set(large) - set(small) for way in ways)
                         for small in by_size[number] for large in by_size[number + 1])
            self.same(grows_at(market, number), wanted)
            told[wanted] += 1
        self.assertTrue(min(told.values()) > 10, told)

    def test_the_whole_row(self):
        """Statement (7)."""
        for seed, market, by_size, number in self.cases():
            whole = market.and_run((0, market.size))
            if len(whole.there()) <= 8:
                self.same(with_parts(whole, number + 1, market.many) == (), grows_at(market, number))

    def test_worlds(self):
        """Statements (1), (2), (3), (4) and (9) in random worlds, if the market grows."""
        for seed, market, by_size, number in self.cases():
            if not grows_at(market, number):
                continue
            for extra in range(4):
                world = random_world(seed * 10 + extra, market)
                small, large = (best_stocks(world, by_size[size]) for size in (number, number + 1))
                self.assertTrue(all(any(set(one) <= set(two) for two in large) for one in small))
                self.assertTrue(all(any(set(one) <= set(two) for one in small) for two in large))
                step = self.step(world, by_size, number)
                for part in market.there():
                    self.assertGreaterEqual(self.critical(world, by_size, number + 1, part),
                                            self.critical(world, by_size, number, part))
                    self.assertGreaterEqual(self.step(risen(world, part), by_size, number), step)
                    losses = [self.loss(world, by_size[size], part) for size in (number, number + 1)]
                    self.assertLessEqual(*losses)

    def step(self, world, by_size, number):
        return best_price(world, by_size[number + 1]) - best_price(world, by_size[number])

    def critical(self, world, by_size, number, part):
        """The critical price; that of a firm part is above, that of a dead part below all integers."""
        having = [part in stock for stock in by_size[number]]
        if all(having) or not any(having):
            return far(None) if all(having) else -far(None)
        return threshold(world, by_size[number], part)

    def loss(self, world, found, part):
        rest = lost_stocks(found, (part,))
        return far(best_price(world, rest)) - best_price(world, found) if rest else far(None)

    def test_notes(self):
        """Statements (5) and (8), if the market grows."""
        safe = 0
        for seed, market, by_size, number in self.cases():
            if not grows_at(market, number):
                continue
            notes = random_notes(seed, market, 24)
            steps = [self.step(world, by_size, number) for world in agreeing(notes)]
            self.same(min(steps), self.step(notes.lows, by_size, number))
            self.same(max(steps), self.step(notes.highs, by_size, number))
            large = [stock for stock in by_size[number + 1] if is_safe(market, number + 1, notes, stock)]
            for stock in by_size[number]:
                if large and is_safe(market, number, notes, stock):
                    safe += number > 0
                    self.assertTrue(any(set(stock) <= set(other) for other in large))
        self.assertGreater(safe, 5)

    def test_where_it_fails(self):
        """All statements fail in the world of a growing way that gives a part back."""
        checked = 0
        for seed, market, by_size, number in self.cases():
            for stock, outs, ins in back_givers(market, by_size, number)[:3]:
                checked += 1
                world = lengths_world(market, stock, outs, ins)
                small, large = (best_stocks(world, by_size[size]) for size in (number, number + 1))
                self.assertEqual(small, [stock])
                self.assertFalse(set(small[0]) <= set(large[0]))
                part = outs[0]
                self.assertLess(self.critical(world, by_size, number + 1, part),
                                self.critical(world, by_size, number, part))
                step = self.step(world, by_size, number)
                self.assertEqual(self.step(risen(world, part), by_size, number), step - 1)
                losses = [self.loss(world, by_size[size], part) for size in (number, number + 1)]
                self.assertGreater(*losses)
                notes = Notes([(price, price + (other == part)) for other, price in enumerate(world)])
                self.assertGreater(self.step(notes.lows, by_size, number), self.step(notes.highs, by_size, number))
                seen = Notes.seen_at(world)
                self.assertTrue(is_safe(market, number, seen, stock))
                self.assertEqual([other for other in by_size[number + 1] if is_safe(market, number + 1, seen, other)],
                                 large)
        self.assertGreater(checked, 20)


class FromOneStocks(Case):
    """Promise 95."""

    def test_all_larger_sizes(self):
        """If the market grows, any larger stock has the rest that is missing beside a smaller one."""
        for seed, market, by_size in itertools.chain(flat_markets(40), join_markets(40, 1, most_parts=6)):
            ways = [set(way) for way in by_size[1]]
            pairs = [(one, two) for one in by_size[1] for two in by_size[2]] if len(by_size) > 2 else []
            wanted = all(any(way <= set(two) - set(one) for way in ways) for one, two in pairs)
            self.same(grows(market), wanted)
            for low in range(len(by_size)):
                for high in range(low, len(by_size)) if wanted else ():
                    for one in by_size[low][:6]:
                        for two in by_size[high][:6]:
                            self.assertIsNotNone(stock_left(market, low, one, high - low, two))

    def test_strength_behind_losses(self):
        for seed, market, by_size in itertools.chain(flat_markets(25), join_markets(25, 0, most_parts=5)):
            wanted = True
            for lost in all_sets(market.there()):
                rest = market - lost
                for way in stocks(rest, 1):
                    wanted = wanted and strength(rest - way) >= strength(rest) - 1
            self.same(grows(market), wanted)


class StockLeft(Case):
    """Promises 22 and 95: a stock within what another stock has more."""

    def test_small_markets(self):
        told = {True: 0, False: 0}
        for seed, market, by_size in itertools.chain(flat_markets(60), join_markets(60, 0)):
            chance = random.Random(seed)
            for _ in range(20):
                low = chance.randrange(len(by_size))
                high = chance.randrange(low, len(by_size))
                one, two = chance.choice(by_size[low]), chance.choice(by_size[high])
                found = stock_left(market, low, list(one)[::-1], high - low, list(two))
                rest = set(two) - set(one)
                wanted = any(set(other) <= rest for other in by_size[high - low])
                self.same(found is not None, wanted)
                told[wanted] += high > low > 0
                if wanted:
                    self.assertTrue(set(found) <= rest and is_a_stock(market, high - low, found))
                    self.same(found, tuple(sorted(found)))
                if high == low:
                    self.same(found, ())
        self.assertTrue(min(told.values()) > 10, told)

    def test_edges(self):
        market = Join(3, FIVE)
        self.same(stock_left(market, 1, (0, 2, 4), 1, (0, 1, 3, 4)), None)
        self.same(stock_left(market, 1, (0, 3), 1, (0, 1, 3, 4)), (1, 4))
        self.same(stock_left(market, 1, (0, 3), 0, (0, 3)), ())
        self.same(stock_left(market, 1, (0, 3), 0, (1, 4)), ())
        self.same(stock_left(market, 0, [], 2, [0, 1, 3, 4]), (0, 1, 3, 4))
        self.same(stock_left(market, 0, [], 0, []), ())
        # The size may be the strength, but then there is no larger stock.
        self.same(stock_left(market, 2, (0, 1, 3, 4), 0, (0, 1, 3, 4)), ())
        self.fails(NotAStock, {"place": 0}, stock_left, market, 2, (0, 1, 3, 4), 1, (0, 1, 3, 4))
        gone = Join(3, FIVE + [(0, 3)], gone=[5])
        self.fails(NotAStock, {"place": -1}, stock_left, gone, 1, [5], 1, (0, 1, 3, 4))
        self.fails(NotAStock, {"place": -1}, stock_left, gone, 1, (0, 3), 1, [0, 3, 5])

    def test_great_markets(self):
        left = 0
        for seed in range(12):
            market = great_ways(seed, 8, kind=Join)
            most = strength(market)
            large = cheapest(market, most, random_world(seed, market))
            small = cheapest(market, 2, random_world(seed + 99, market))
            rest = set(large) - set(small)
            within = strength(market.keep(sorted(rest)))
            for more in (1, most - 2):
                found = stock_left(market, most - more, cheapest(market, most - more, [0] * 60), more, large)
                if found is not None:
                    self.assertTrue(is_a_stock(market, more, found))
            found = stock_left(market, 2, small, most - 2, large)
            self.same(found is not None, within >= most - 2)
            if found is not None:
                left += 1
                self.assertTrue(set(found) <= rest and is_a_stock(market, most - 2, found))
        self.assertGreater(left, 0)


class Smallest(Case):
    """Promise 98: which markets are too small not to grow."""

    def test_least_market(self):
        self.same([grows(Join(3, FIVE)), strength(Join(3, FIVE)), grows_at(Join(3, FIVE), 1)], [False, 2, False])
        for part in range(5):
            self.same(grows(Join(3, FIVE) - [part]), True)

    def test_fewer_parts(self):
        for size in (3, 4):
            for runs in itertools.combinations_with_replacement(all_runs(size), 4):
                self.same(grows(Join(size, runs)), True)

    def test_two_places(self):
        for seed, market, _ in join_markets(120, 1, most_places=2, most_parts=8):
            self.same(grows(market), True)
        for runs in itertools.combinations_with_replacement(all_runs(2), 5):
            self.same(grows(Join(2, runs)), True)


class Shapes(Case):
    """Promise 105: shapes that grow."""

    def test_end_to_end(self):
        told = {True: 0, False: 0}
        small = [row for row in flat_markets(20)] + list(join_markets(8, 1, most_places=2, most_parts=4))
        for (seed, one, rows), (_, two, other_rows) in itertools.product(small[:14], small[-8:]):
            if len(one.there()) + len(two.there()) > 10:
                continue
            for number in range(min(len(rows), len(other_rows)) - 1):
                wanted = grows_at(one, number) and grows_at(two, number)
                self.same(grows_at(one + two, number), wanted)
                self.same(grows_at(two + one, number), wanted)
                told[wanted] += 1
        self.assertTrue(min(told.values()) > 5, told)

    def test_beside(self):
        told = {True: 0, False: 0}
        small = list(flat_markets(12)) + list(join_markets(10, 0, most_places=2, most_parts=4))
        for (_, one, rows), (_, two, other_rows) in itertools.product(small, small[-10:]):
            if len(one.there()) + len(two.there()) > 10:
                continue
            for number in range(len(rows) + len(other_rows) - 2):
                wanted = True
                for market, mine, others in ((one, rows, other_rows), (two, other_rows, rows)):
                    for size in range(number + 1):
                        if size < len(mine) - 1 and number - size < len(others):
                            wanted = wanted and grows_at(market, size)
                self.same(grows_at(one | two, number), wanted)
                told[wanted] += 1
        self.assertTrue(min(told.values()) > 5, told)

    def test_turned_and_lost(self):
        for seed, market, by_size in itertools.chain(flat_markets(30), join_markets(30, 1, most_parts=6)):
            for number in range(len(by_size) - 1):
                wanted = grows_at(market, number)
                self.same(grows_at(~market, number), wanted)
                for lost in all_sets(market.there())[:20]:
                    if wanted and number < strength(market - lost):
                        self.same(grows_at(market - lost, number), True)


class Wrong(Case):
    """Promises 1 and 2."""

    def test_numbers(self):
        market = Join(3, FIVE)
        for value in NO_INTEGERS + (-1, 2, 10 ** 30):
            self.fails(BadNumber, {"name": "number"}, grows_at, market, value)
            self.fails(BadNumber, {"name": "number"}, going_back, market, value)
        for value in NO_INTEGERS + (-1,):
            self.fails(BadNumber, {"name": "number"}, stock_left, market, value, (), 1, (0, 3))
            self.fails(BadNumber, {"name": "more"}, stock_left, market, 0, (), value, (0, 3))

    def test_sets(self):
        market = Join(3, FIVE)
        for value in NO_ROWS:
            self.fails(BadSet, {"place": -1}, stock_left, market, 0, value, 1, (0, 3))
            self.fails(BadSet, {"place": -1}, stock_left, market, 0, (), 1, value)
        for part in NO_INTEGERS + (5, -1, 0):
            self.fails(BadSet, {"place": 1}, stock_left, market, 0, [0, part], 1, (0, 3))
            self.fails(BadSet, {"place": 1}, stock_left, market, 0, (), 1, [0, part])

    def test_orders(self):
        market, lap = Join(3, FIVE + [(0, 1)] * 6), Lap(3, FIVE + [(0, 1)] * 6)
        kind = (0, lap, NotJoin, {})
        for function in (grows_at, going_back):
            self.order(function, (Join(3, FIVE), 1), (kind, (1, 2, BadNumber, {"name": "number"})))
            self.order(function, (Join(3, FIVE), 1), (
                (1, None, BadNumber, {"name": "number"}), (0, market, TooMany, {"number": 11}),
            ))
        self.fails(NotJoin, {}, grows, lap)
        self.order(stock_left, (market, 1, (0, 3), 1, (0, 1, 3, 4)), (
            kind, (1, -1, BadNumber, {"name": "number"}), (2, [0, 0], BadSet, {"place": 1}),
            (3, "1", BadNumber, {"name": "more"}), (4, None, BadSet, {"place": -1}),
            (2, (0, 4), NotAStock, {"place": 1}), (4, (0, 1, 3), NotAStock, {"place": 2}),
        ))

    def test_arguments_stay(self):
        market = Join(3, FIVE)
        stock, other = [3, 0], [4, 3, 1, 0]
        first = (stock_left(market, 1, stock, 1, other), going_back(market, 1))
        self.assertEqual((stock, other), ([3, 0], [4, 3, 1, 0]))
        self.same(first, (stock_left(market, 1, (0, 3), 1, (0, 1, 3, 4)), going_back(Join(3, FIVE), 1)))


if __name__ == "__main__":
    unittest.main()
