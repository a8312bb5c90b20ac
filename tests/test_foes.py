import random
import unittest

from keptparts.cheapest import cheapest, price_of
from keptparts.errors import BadDemand, BadNumber, BadWorld, NoParts, NoStock, OtherSize, TooMany
from keptparts.foes import MOST_SETS, worst_at, worst_loss, worst_part
from keptparts.markets import Join, Lap
from keptparts.mending import mend_in_turn, mend_price
from keptparts.notes import Notes
from support import (
    NO_INTEGERS, NO_ROWS, Case, agreeing, all_sets, best_price, best_stocks, far, free_world, great_market,
    great_notes, great_ways, lost_stocks, price, random_cases, random_market, random_notes, random_stock,
    random_world, stocks, stocks_by_size,
)


def worst_by_words(market, found, world, losses):
    """The worst loss and its price, by all sets: all_sets goes by size, then ascending."""
    worst = None
    for lost in all_sets(market.there()):
        cost = best_price(world, lost_stocks(found, lost))
        if len(lost) <= losses and (worst is None or far(cost) > far(worst[1])):
            worst = lost, cost
    return worst


class WorstLoss(Case):
    """Promises 81 and 83: the loss of so many parts that makes a stock dearest."""

    def test_small_markets(self):
        none = lots = 0
        for seed in range(150):
            market = random_market(seed)
            world = random_world(seed, market)
            for number in range(4):
                found = stocks(market, number)
                for losses in (0, 1, 2, 9):
                    wanted = worst_by_words(market, found, world, losses)
                    self.same(worst_loss(market, number, list(world), losses), wanted)
                    none += wanted[1] is None and wanted[0] != ()
                    lots += len(wanted[0]) > 1 and wanted[1] is not None
                    if not found:
                        self.same(wanted, ((), None))
        self.assertTrue(none > 50 and lots > 10, (none, lots))

    def test_in_words(self):
        market = Join(1, [(0, 1)] * 4, gone=[1])
        self.same(worst_loss(market, 1, (1, 0, 2, 2), 0), ((), 1))
        self.same(worst_loss(market, 1, (1, 0, 2, 2), 1), ((0,), 2))
        # A second loss makes it no dearer, so it is left out; a third one leaves nothing.
        self.same(worst_loss(market, 1, (1, 0, 2, 2), 2), ((0,), 2))
        self.same(worst_loss(market, 1, (1, 0, 2, 2), 3), ((0, 2, 3), None))
        self.same(worst_loss(market, 1, (3, 3, 3, 3), 1), ((), 3))
        self.same(worst_loss(market, 0, (1, 1, 1, 1), 3), ((), 0))
        self.same(worst_loss(market, 3, (1, 1, 1, 1), 1), ((0,), None))
        self.same(worst_loss(market, 4, (1, 1, 1, 1), 2), ((), None))
        self.same(worst_loss(Lap(2, []), 0, (), 5), ((), 0))
        self.same(worst_loss(Lap(2, []), 1, [], 0), ((), None))

    def test_five_hundred_sets(self):
        self.same(MOST_SETS, 500)
        for kind in (Join, Lap):
            many = kind(1, [(0, 1)] * 499)
            self.same(worst_loss(many, 0, [1] * 499, 1), ((), 0))
            self.fails(TooMany, {"number": 501}, worst_loss, many.and_run((0, 1)), 0, [1] * 500, 1)
            some = kind(1, [(0, 1)] * 40, gone=list(range(9, 40)))
            self.fails(TooMany, {"number": 512}, worst_loss, some, 1, [1] * 40, 9)
            self.fails(TooMany, {"number": 512}, worst_loss, some, 99, [1] * 40, 10 ** 30)
            self.fails(TooMany, {"number": 511}, worst_at, some, 1, Notes.unknown(40, 3), 8)
            self.same(worst_loss(some.lose([3]), 1, [1] * 40, 10 ** 30), ((0, 1, 2, 4, 5, 6, 7, 8), None))
            self.same(worst_at(some.lose([3]), 1, Notes.unknown(40, 3), 7), ((), 3))
            self.same(worst_loss(many - list(range(31, 499)), 1, list(range(499)), 2), ((0, 1), 2))
            self.fails(TooMany, {"number": 529}, worst_loss, many - list(range(32, 499)), 1, [0] * 499, 2)

    def test_great_markets(self):
        dear = 0
        for seed in range(6):
            market = great_ways(seed, 4, 33, 2)
            world = random_world(seed, market, 10 ** 30)
            number = 1 + seed % 3
            lost, cost = worst_loss(market, number, world, 2)
            self.same(price_of(market.lose(lost), number, world), cost)
            chance = random.Random(seed)
            for _ in range(40):
                other = chance.sample(market.there(), 2)
                self.assertLessEqual(far(price_of(market.lose(other), number, world)), far(cost))
            dear += cost is not None and len(lost) > 0
            whole = great_ways(seed, 6)
            world = random_world(seed + 9, whole, 10 ** 30)
            costs = [(far(price_of(whole.lose([part]), number, world)), -part) for part in whole.there()]
            costs.append((far(price_of(whole, number, world)), 1))
            greatest, part = max(costs)
            told = ((), ) if part == 1 else ((-part,),)
            self.same(worst_loss(whole, number, world, 1), told + (None if greatest == far(None) else greatest,))
        self.assertGreater(dear, 1)


class WorstAt(Case):
    """Promises 50 and 81: the worst loss over all agreeing worlds."""

    def test_small_markets(self):
        for seed in range(80):
            market = random_market(seed, most_parts=5)
            notes = random_notes(seed, market, 12)
            for number in range(3):
                found = stocks(market, number)
                for losses in (0, 1, 2):
                    told = worst_at(market, number, notes, losses)
                    self.same(told, worst_by_words(market, found, notes.highs, losses))
                    self.same(told, worst_loss(market, number, notes.highs, losses))
                    greatest = max(far(worst_by_words(market, found, world, losses)[1]) for world in agreeing(notes))
                    self.same(far(told[1]), greatest)

    def test_great_market(self):
        market = great_market(3, gone=20)
        notes = great_notes(3, market)
        self.same(worst_at(market, 1, notes, 1), worst_loss(market, 1, notes.highs, 1))


class WorstPart(Case):
    """Promises 76 and 77: the one part whose loss is worst."""

    def test_small_markets(self):
        none = ties = 0
        for seed, market, demand, found in random_cases(150):
            world = random_world(seed, market)
            costs = {part: best_price(world, lost_stocks(found, (part,))) for part in market.there()}
            if not costs:
                continue
            greatest = max(far(cost) for cost in costs.values())
            least = min(part for part in costs if far(costs[part]) == greatest)
            self.same(worst_part(market, demand, list(world)), (least, costs[least]))
            none += costs[least] is None
            ties += sum(far(cost) == greatest for cost in costs.values()) > 1
        self.assertTrue(none > 20 and ties > 20, (none, ties))

    def test_no_parts(self):
        for kind in (Join, Lap):
            for market in (kind(2, []), kind(2, [(0, 1), (1, 2)], gone=[0, 1])):
                self.fails(NoParts, {}, worst_part, market, 0, [1] * market.many)
                self.fails(NoStock, {}, worst_part, market, 1, [1] * market.many)
        self.same(worst_part(Join(1, [(0, 1)] * 3, gone=[0]), 1, (0, 1, 1)), (1, 1))
        self.same(worst_part(Join(1, [(0, 1)] * 3), 1, (2, 0, 2)), (1, 2))

    def test_great_markets(self):
        for seed in range(4):
            market = great_market(seed)
            _, demand = random_stock(seed, market)
            world = random_world(seed, market, 10 ** 30)
            costs = {part: price_of(market.lose([part]), demand, world) for part in market.there()}
            greatest = max(far(cost) for cost in costs.values())
            least = min(part for part in costs if far(costs[part]) == greatest)
            self.same(worst_part(market, demand, world), (least, costs[least]))


class MendingAtItsWorst(Case):
    """Promises 82, 83 and 89: mending behind the worst losses."""

    def test_late_is_never_dearer(self):
        checked = dear = 0
        for seed in range(120):
            market = random_market(seed, most_places=3, most_parts=7)
            world = random_world(seed, market)
            by_size = stocks_by_size(market)
            for many in range(1, len(by_size)):
                for losses in range(1, len(by_size) - many):
                    stock = best_stocks(world, by_size[many])[0]
                    lost, cost = worst_loss(market, many, free_world(world, stock), losses)
                    self.same(mend_price(market, many, world, stock, lost), cost)
                    costs = [far(mend_price(market, many, world, stock, other))
                             for other in all_sets(market.there()) if len(other) <= losses]
                    self.same(max(costs), cost)
                    if many <= losses:
                        checked += 1
                        dear += cost > 0
                        self.assertLessEqual(price(world, stock) + cost, best_price(world, by_size[many + losses]))
        self.assertTrue(checked > 20 and dear > 10, (checked, dear))

    def test_payments(self):
        """The first payment is at most that for the worst part; all are at most that for the worst loss."""
        checked = 0
        for seed, market, demand, found in random_cases(80, most_parts=7):
            world = random_world(seed, market)
            stock = found[0]
            if not market.there():
                continue
            free = free_world(world, stock)
            part, cost = worst_part(market, demand, free)
            self.same(mend_price(market, demand, world, stock, [part]), cost)
            row = random.Random(seed).sample(market.there(), min(2, len(market.there())))
            payments = mend_in_turn(market, demand, world, stock, row)
            self.assertLessEqual(far(payments[0]), far(cost))
            if isinstance(demand, int) and demand >= 0:
                checked += 1
                _, greatest = worst_loss(market, demand, free, len(row))
                self.assertTrue(all(far(payment) <= far(greatest) for payment in payments))
        self.assertGreater(checked, 20)

    def test_cheapest_stocks(self):
        market = Join(3, [(0, 1), (0, 2), (1, 2), (1, 3), (2, 3)])
        world = (1, 10, 1, 10, 1)
        self.same(cheapest(market, 1, world), (0, 2, 4))
        self.same(worst_loss(market, 1, free_world(world, (0, 2, 4)), 1), ((0,), 10))
        self.same(worst_part(market, 1, free_world(world, (0, 2, 4))), (0, 10))


class Wrong(Case):
    """Promises 1 and 2."""

    def test_numbers(self):
        market = Join(1, [(0, 1)] * 2)
        for value in NO_INTEGERS + (-1,):
            self.fails(BadNumber, {"name": "number"}, worst_loss, market, value, (1, 2), 1)
            self.fails(BadNumber, {"name": "losses"}, worst_loss, market, 1, (1, 2), value)
            self.fails(BadNumber, {"name": "number"}, worst_at, market, value, Notes.unknown(2, 1), 1)
            self.fails(BadNumber, {"name": "losses"}, worst_at, market, 1, Notes.unknown(2, 1), value)

    def test_worlds(self):
        market = Join(1, [(0, 1)] * 2)
        for world in NO_ROWS + ((1,), [1, 2, 3]):
            self.fails(BadWorld, {"place": -1}, worst_loss, market, 1, world, 1)
            self.fails(BadWorld, {"place": -1}, worst_part, market, 1, world)
        for value in NO_INTEGERS + (-1,):
            self.fails(BadWorld, {"place": 1}, worst_loss, market, 1, [0, value], 1)
            self.fails(BadWorld, {"place": 0}, worst_part, market, 1, [value, 0])

    def test_orders(self):
        many = Join(1, [(0, 1)] * 9)
        self.order(worst_loss, (many, 1, [1] * 9, 2), (
            (1, -1, BadNumber, {"name": "number"}), (2, [1] * 8, BadWorld, {"place": -1}),
            (3, None, BadNumber, {"name": "losses"}), (3, 9, TooMany, {"number": 512}),
        ))
        self.order(worst_at, (many, 1, Notes.unknown(9, 2), 2), (
            (1, -1, BadNumber, {"name": "number"}), (3, None, BadNumber, {"name": "losses"}),
            (2, Notes.unknown(8, 2), OtherSize, {"size": 8}), (3, 9, TooMany, {"number": 512}),
        ))
        self.order(worst_part, (Lap(2, []), 0, []), (
            (1, [0, "0"], BadDemand, {"place": 1}), (2, [4], BadWorld, {"place": -1}), (1, 1, NoStock, {}),
        ))

    def test_arguments_stay(self):
        market, world, demand = Join(2, [(0, 1), (1, 2), (0, 2)]), [1, 2, 4], [1, 1]
        first = (worst_loss(market, 1, world, 2), worst_part(market, demand, world))
        self.assertEqual((world, demand), ([1, 2, 4], [1, 1]))
        self.same(first, (worst_loss(market, 1, (1, 2, 4), 2), worst_part(market, (1, 1), (1, 2, 4))))


if __name__ == "__main__":
    unittest.main()
