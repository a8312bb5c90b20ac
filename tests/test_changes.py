import itertools
import random
import unittest

from keptparts.changes import (
    bears_change, bears_each, near, regret_under, room, side_room, weakest, worst_change,
)
from keptparts.cheapest import cheapest, is_cheapest
from keptparts.errors import (
    BadDemand, BadNumber, BadSet, BadWorld, NotAStock, NotCheapest,
)
from keptparts.losing import by_tables
from keptparts.markets import Join, Lap
from keptparts.notes import Notes
from keptparts.regrets import regret_in
from keptparts.safety import is_safe, only_possible
from support import (
    NO_INTEGERS, NO_ROWS, Case, agreeing, best_price, best_stocks, difference, great_notes, great_ways, lost_stocks,
    price, random_cases, random_notes, random_world, ring_moves, risen,
)

WITH_STOCK = ((room, ()), (weakest, ()), (side_room, ()), (bears_change, (1,)), (worst_change, (1,)),
              (regret_under, (1,)), (bears_each, (1,)))


def cheapest_cases(many, **more):
    """Markets with a world, a cheapest stock of it, and all stocks."""
    for seed, market, demand, found in random_cases(many, **more):
        world = random_world(seed, market, 5)
        yield seed, market, demand, found, world, random.Random(seed).choice(best_stocks(world, found))


def worlds_around(world, total):
    """All worlds with a total change of at most so much."""
    rows = [((), total)]
    for here in world:
        rows = [(row + (other,), left - abs(other - here)) for row, left in rows
                for other in range(max(0, here - left), here + left + 1)]
    return [row for row, _ in rows]


def room_by_words(market, found, world, stock):
    """The least loss of a single part of the stock, by all stocks."""
    losses = [difference(best_price(world, lost_stocks(found, (part,))), price(world, stock)) for part in stock]
    return min([loss for loss in losses if loss is not None], default=None)


class Room(Case):
    """Promise 127: room."""

    def test_small_markets(self):
        none = wide = 0
        for seed, market, demand, found, world, stock in cheapest_cases(150):
            case = (market, demand, list(world), list(stock)[::-1])
            wanted = room_by_words(market, found, world, stock)
            self.same(room(*case), wanted)
            losses = by_tables(market, demand, world)
            weak = [part for part in stock if losses[part] is not None and losses[part] == wanted]
            self.same(weakest(*case), min(weak) if weak else None)
            none += wanted is None
            wide += wanted is not None and wanted > 0
            for total in (0, 1, 2, 3, 7, 10 ** 30):
                alone = all(price(risen(world, part, total), stock) == best_price(risen(world, part, total), found)
                            for part in stock)
                self.same(bears_change(*case, total), alone)
                self.same(alone, wanted is None or total <= wanted)
            if market.KIND == "join":
                self.same(best_stocks(world, found) == [stock], wanted is None or wanted >= 1)
        self.assertTrue(none > 15 and wide > 15, (none, wide))

    def test_all_worlds(self):
        """In all worlds with so small a total change."""
        for seed, market, demand, found, world, stock in cheapest_cases(80, most_parts=4):
            for total in (0, 1, 2, 3):
                wanted = all(price(other, stock) == best_price(other, found) for other in worlds_around(world, total))
                self.same(bears_change(market, demand, world, stock, total), wanted)

    def test_edges(self):
        for kind in (Join, Lap):
            self.same((room(kind(1, []), 0, [], []), weakest(kind(1, []), 0, [], [])), (None, None))
            self.same(side_room(kind(1, []), 0, [], []), None)
            # Each part is firm.
            firm = kind(2, [(0, 1), (1, 2), (1, 2)], gone=[2])
            self.same((room(firm, 1, (3, 4, 0), (0, 1)), weakest(firm, 1, (3, 4, 0), (0, 1))), (None, None))
            self.same(bears_change(firm, 1, (3, 4, 0), (0, 1), 10 ** 30), True)
            self.same(worst_change(firm, 1, [3, 4, 0], (0, 1), 9), (3, 4, 0))
            self.same(regret_under(firm, 1, (3, 4, 0), (0, 1), 9), 0)
            self.same(bears_each(firm, 1, (3, 4, 0), (0, 1), 10 ** 30), True)
            # One part is firm, the other one is not.
            half = kind(2, [(0, 1), (1, 2), (1, 2)])
            self.same((room(half, 1, (3, 4, 6), (0, 1)), weakest(half, 1, (3, 4, 6), (0, 1))), (2, 1))
        two = Join(1, [(0, 1)] * 4)
        self.same((room(two, 2, (1, 1, 5, 5), (0, 1)), weakest(two, 2, (1, 1, 5, 5), (0, 1))), (4, 0))
        self.same((room(two, 2, (1, 1, 1, 5), (1, 2)), weakest(two, 2, (1, 1, 1, 5), (1, 2))), (0, 1))

    def test_great_markets(self):
        for seed in range(4):
            market = great_ways(seed, 6)
            world = random_world(seed, market, 10 ** 30)
            stock = cheapest(market, 2, world)
            width = room(market, 2, world, stock)
            part = weakest(market, 2, world, stock)
            self.same(is_cheapest(market, 2, risen(world, part, width), stock), True)
            self.same(is_cheapest(market, 2, risen(world, part, width + 1), stock), False)
            self.same([bears_change(market, 2, world, stock, total) for total in (width, width + 1)], [True, False])
            self.same(regret_under(market, 2, world, stock, width + 7), 7)
            self.same(regret_in(market, 2, worst_change(market, 2, world, stock, width + 7), stock), 7)


class WorstChange(Case):
    """Promise 128: what a change costs."""

    def test_small_markets(self):
        dear = 0
        for seed, market, demand, found, world, stock in cheapest_cases(80, most_parts=4):
            width = room_by_words(market, found, world, stock)
            for total in (0, 1, 2, 3):
                regrets = [price(other, stock) - best_price(other, found) for other in worlds_around(world, total)]
                self.same(regret_under(market, demand, list(world), stock, total), max(regrets))
                self.same(max(regrets), 0 if width is None else max(0, total - width))
                worst = worst_change(market, demand, list(world), stock, total)
                self.assertIs(type(worst), tuple)
                self.assertLessEqual(sum(abs(a - b) for a, b in zip(worst, world)), total)
                self.assertTrue(all(one >= 0 for one in worst))
                self.same(price(worst, stock) - best_price(worst, found), max(regrets))
                dear += max(regrets) > 0
        self.assertGreater(dear, 30)

    def test_large_totals(self):
        for seed, market, demand, found, world, stock in cheapest_cases(60):
            width = room_by_words(market, found, world, stock)
            for total in (8, 10 ** 30):
                worst = worst_change(market, demand, world, stock, total)
                self.assertLessEqual(sum(abs(a - b) for a, b in zip(worst, world)), total)
                self.same(price(worst, stock) - best_price(worst, found), 0 if width is None else total - width)


class EachALittle(Case):
    """Promise 129: each price a little."""

    def test_near(self):
        self.same(near([0, 2, 9], 3).stretches, ((0, 3), (0, 5), (6, 12)))
        self.same(near((), 5).stretches, ())
        self.same(near((7, 0), 0).stretches, ((7, 7), (0, 0)))
        self.assertIs(type(near([1], 1)), Notes)
        for world in NO_ROWS:
            self.fails(BadWorld, {"place": -1}, near, world, None)
        for value in NO_INTEGERS + (-1,):
            self.fails(BadWorld, {"place": 1}, near, [0, value, value], None)
            self.fails(BadNumber, {"name": "number"}, near, [0, 1], value)

    def test_small_markets(self):
        none = wide = less = 0
        for seed, market, demand, found, world, stock in cheapest_cases(120, most_parts=4):
            case = (market, demand, list(world), list(stock)[::-1])
            bears = [all(price(other, stock) == best_price(other, found) for other in agreeing(near(world, number)))
                     for number in range(4)]
            self.same([bears_each(*case, number) for number in range(4)], bears)
            told, width = side_room(*case), room(*case)
            self.same(told is None, width is None)
            if told is None:
                none += 1
                self.same(bears, [True] * 4)
                continue
            self.same(bears, [number <= told for number in range(4)])
            self.same([bears_each(*case, number) for number in (told, told + 1)], [True, False])
            self.assertTrue(told < width or told == width == 0)
            longest = max(len(outs) + len(ins) for outs, ins in ring_moves(market, demand, stock) if outs)
            self.assertGreaterEqual(told, width // longest)
            wide += told > 0
            less += told < width - 1
        self.assertTrue(none > 10 and wide > 8 and less > 3, (none, wide, less))

    def test_prices_near_nothing(self):
        """Prices do not fall below 0."""
        market = Join(1, [(0, 1), (0, 1)])
        self.same([side_room(market, 1, (0, price), [0]) for price in (0, 1, 2, 9, 10 ** 30)],
                  [0, 0, 1, 4, 5 * 10 ** 29])
        lap = Lap(2, [(0, 2), (0, 1), (1, 2)])
        self.same(side_room(lap, 1, (4, 4, 4), [0]), 1)
        # The two parts against it can become free, but not more than that.
        self.same([side_room(lap, 1, (0, 1, 8), [0]), room(lap, 1, (0, 1, 8), [0])], [4, 9])
        self.same([bears_each(lap, 1, (0, 1, 8), [0], number) for number in (4, 5)], [True, False])

    def test_great_markets(self):
        for seed in range(3):
            market = great_ways(seed, 5)
            world = random_world(seed, market, 10 ** 30)
            stock = cheapest(market, 2, world)
            told = side_room(market, 2, world, stock)
            self.same([bears_each(market, 2, world, stock, number) for number in (told, told + 1)], [True, False])
            self.same([is_safe(market, 2, near(world, number), stock) for number in (told, told + 1)], [True, False])


class RoomInAllWorlds(Case):
    """Promises 126 and 131: the room at notes."""

    def test_only_possible(self):
        """Promise 126 (join)."""
        told = {True: 0, False: 0}
        for seed, market, demand, found in random_cases(120, kind=Join):
            notes = random_notes(seed, market)
            for stock in found:
                high = notes.high_on(stock)
                safe = is_safe(market, demand, notes, stock)
                width = room(market, demand, high, stock) if safe else 0
                wanted = safe and (width is None or width >= 1)
                self.same(only_possible(market, demand, notes, stock), wanted)
                told[wanted] += 1
                for world in agreeing(notes) if wanted else ():
                    here = room(market, demand, world, stock)
                    self.assertTrue(here is None or here >= 1)
        self.assertTrue(min(told.values()) > 30, told)

    def test_rooms(self):
        wide = none = 0
        for seed, market, demand, found in random_cases(150):
            notes = random_notes(seed, market, 30)
            for stock in [one for one in found if is_safe(market, demand, notes, one)][:2]:
                rooms = [room(market, demand, world, stock) for world in agreeing(notes)]
                ends = [room(market, demand, world, stock) for world in (notes.high_on(stock), notes.low_on(stock))]
                if None in rooms:
                    none += 1
                    self.same(rooms + ends, [None] * (len(rooms) + 2))
                    continue
                self.same(sorted(set(rooms)), list(range(ends[0], ends[1] + 1)))
                wide += ends[0] < ends[1]
                for total in range(ends[1] + 2):
                    bears = [bears_change(market, demand, world, stock, total) for world in agreeing(notes)]
                    self.same(all(bears), bears_change(market, demand, notes.high_on(stock), stock, total))
                    self.same(any(bears), bears_change(market, demand, notes.low_on(stock), stock, total))
        self.assertTrue(wide > 15 and none > 10, (wide, none))

    def test_great_market(self):
        market = great_ways(2, 4)
        notes = great_notes(2, market)
        sharp = notes.after(notes.unseen()[5:], notes.lows)
        stock = cheapest(market, 1, sharp.lows)
        if is_safe(market, 1, sharp, stock):
            self.assertLessEqual(room(market, 1, sharp.high_on(stock), stock), room(market, 1, sharp.lows, stock))
        self.assertIsNotNone(room(market, 1, sharp.lows, stock))


class Wrong(Case):
    """Promises 1 and 2."""

    def test_orders(self):
        for kind in (Join, Lap):
            market = kind(2, [(0, 1), (1, 2), (0, 2), (0, 2)], gone=[3])
            for function, more in WITH_STOCK:
                name = "number" if function is bears_each else "total"
                faults = [(1, [1, None], BadDemand, {"place": 1}), (2, (0, 0, -1, 0), BadWorld, {"place": 2}),
                          (3, [0, 0], BadSet, {"place": 1})]
                if more:
                    faults.append((4, -1, BadNumber, {"name": name}))
                case = (market, 1, (0, 1, 3, 0), (0, 1)) + more
                self.order(function, case, faults + [(3, [0], NotAStock, {"place": 1})])
                self.order(function, case, faults + [(3, [3], NotAStock, {"place": -1})])
                self.order(function, case, faults + [(3, [2], NotCheapest, {"outs": (2,), "ins": (0, 1)})])

    def test_values(self):
        market = Join(1, [(0, 1), (0, 1)])
        for function, more in WITH_STOCK:
            for value in NO_INTEGERS + (-1,):
                if more:
                    name = "number" if function is bears_each else "total"
                    self.fails(BadNumber, {"name": name}, function, market, 1, (1, 2), [0], value)
                self.fails(BadWorld, {"place": 1}, function, market, 1, [0, value], [0], *more)
            for value in NO_ROWS:
                self.fails(BadSet, {"place": -1}, function, market, 1, (1, 2), value, *more)
                self.fails(BadWorld, {"place": -1}, function, market, 1, value, [0], *more)

    def test_arguments_stay(self):
        market = Join(1, [(0, 1), (0, 1), (0, 1)])
        demand, world, stock = [2], [2, 9, 4], [2, 0]
        first = [repr(function(market, demand, world, stock, *more)) for function, more in WITH_STOCK]
        self.assertEqual((demand, world, stock), ([2], [2, 9, 4], [2, 0]))
        again = [repr(function(market, 2, (2, 9, 4), (0, 2), *more)) for function, more in WITH_STOCK]
        self.same(first, again)
        self.same(first[:4], ["5", "2", "2", "True"])
        notes = near(world, 1)
        world[0] = 7
        self.same(notes.stretches, ((1, 3), (8, 10), (3, 5)))

    def test_changes_of_several_prices(self):
        """A total change may be spread over several parts, but one part alone is as bad as any."""
        market = Join(1, [(0, 1)] * 3)
        for spread in itertools.product(range(4), repeat=3):
            world = (2 + spread[0], max(0, 6 - spread[1]), max(0, 7 - spread[2]))
            total = sum(spread)
            self.assertLessEqual(regret_in(market, 1, world, [0]), regret_under(market, 1, (2, 6, 7), [0], total))


if __name__ == "__main__":
    unittest.main()
