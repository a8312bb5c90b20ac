import random
import unittest

from keptparts.blows import fewest_shown, free_stock, shown_price, shows_price
from keptparts.changes import room
from keptparts.cheapest import price_of
from keptparts.cuts import blow_at, full_points, leaving, state_of, strength
from keptparts.errors import BadNumber, BadSet, BadWorld, NotAgreeing, OtherSize
from keptparts.losing import Losing
from keptparts.markets import Join, Lap
from keptparts.notes import Notes
from support import (
    NO_INTEGERS, NO_ROWS, Case, agreeing, all_sets, best_price, best_stocks, far, great_notes, great_ways, is_a_stock,
    lost_stocks, random_market, random_notes, random_world, stocks, stocks_by_size,
)


def sized_markets(many, least=1, **more):
    """Markets of both kinds of at least this strength, with all their stocks by size."""
    seed = told = 0
    while told < many:
        seed += 1
        market = random_market(seed, **more)
        by_size = stocks_by_size(market)
        if len(by_size) > least:
            told += 1
            yield seed, market, by_size


class RoomAndSizes(Case):
    """Promise 130: losses, room and sizes."""

    def test_losses(self):
        checked = 0
        for seed, market, by_size in sized_markets(60, 1, most_parts=6):
            world = random_world(seed, market)
            costs = [best_price(world, found) for found in by_size]
            for number in range(len(by_size)):
                losing = Losing(market, number, world)
                for losses in range(len(by_size) - number):
                    for lost in all_sets(market.there()):
                        if len(lost) <= losses:
                            checked += bool(lost) and number > 0
                            self.assertLessEqual(losing(lost) + costs[number] + costs[losses],
                                                 costs[number + losses])
        self.assertGreater(checked, 100)

    def test_rooms(self):
        checked = 0
        for seed, market, by_size in sized_markets(80, 2, most_parts=8, most_places=3):
            world = random_world(seed, market)
            costs = [best_price(world, found) for found in by_size]
            for number in range(1, len(by_size) - 1):
                for stock in best_stocks(world, by_size[number]):
                    checked += 1
                    self.assertLessEqual(far(room(market, number, world, stock)),
                                         costs[number + 1] - costs[number] - costs[1])
        self.assertGreater(checked, 60)


class BlowsAndLosses(Case):
    """Promise 132: blows and losses."""

    def test_small_markets(self):
        alone = 0
        for seed, market, by_size in sized_markets(80, 1, most_parts=6):
            world = random_world(seed, market)
            for number in range(1, len(by_size)):
                losing = Losing(market, number, world)
                for lost in all_sets(market.there()):
                    blow = not lost_stocks(by_size[number], lost)
                    self.same(losing(lost) is None, blow)
                    self.same(free_stock(market, number, lost) is None, blow)
                    if blow and len(lost) == 1:
                        alone += 1
                        self.check_firm(market, number, lost[0], len(by_size) - 1)
                self.same(losing(blow_at(market, number)), None)
        self.assertGreater(alone, 60)

    def check_firm(self, market, number, part, greatest):
        self.same((state_of(market, number, part), number), ("firm", greatest))
        points = full_points(market, number, part)
        if market.KIND == "join":
            told = leaving(market, points)
        else:
            place = points[-1]
            told = tuple(other for other in market.there() if market.runs[other][0] <= place < market.runs[other][1])
        self.assertTrue(part in told and len(told) == number)


class AsksAreBlows(Case):
    """Promise 133: asks are blows."""

    def test_small_markets(self):
        told = {True: 0, False: 0}
        for seed, market, by_size in sized_markets(60, 1, most_parts=6):
            chance = random.Random(seed)
            least = chance.randint(1, 3)
            notes = Notes([(0, least + chance.randint(0, 2)) for _ in market.runs])
            world = tuple(chance.randint(least, high) for _, high in notes.stretches)
            for number in range(1, len(by_size)):
                sizes = []
                for asked in all_sets(range(market.many)):
                    blow = not lost_stocks(by_size[number], asked)
                    self.same(shows_price(market, number, notes, world, asked, least), blow)
                    told[blow] += 1
                    sizes += [len(asked)] * blow
                self.same(fewest_shown(market, number), min(sizes))
                self.same(min(sizes), strength(market) - number + 1)
                self.same(shows_price(market, number, notes, world, blow_at(market, number), least), True)
        self.assertTrue(min(told.values()) > 300, told)

    def test_any_notes(self):
        """What is surely paid, for any notes and any number."""
        told = {True: 0, False: 0}
        for seed in range(60):
            market = random_market(seed, most_parts=4)
            notes = random_notes(seed, market)
            world = random.Random(seed).choice(agreeing(notes))
            for number in (-1, 0, 1, 2):
                found = stocks(market, number)
                self.same(shown_price(market, number, notes), best_price(notes.lows, found))
                for asked in all_sets(range(market.many)):
                    after = notes.after(asked, world)
                    for price in (0, 1, 3, 6):
                        wanted = all(far(best_price(one, found)) >= price for one in agreeing(after))
                        self.same(shows_price(market, number, notes, list(world), list(asked)[::-1], price), wanted)
                        told[wanted] += 1
        self.assertTrue(min(told.values()) > 200, told)

    def test_free_stocks(self):
        for seed in range(80):
            market = random_market(seed)
            for number in (-1, 0, 1, 2):
                found = stocks(market, number)
                for lost in all_sets(range(market.many))[:40]:
                    told = free_stock(market, number, list(lost)[::-1])
                    wanted = lost_stocks(found, lost)
                    self.same(told is None, not wanted)
                    if told is not None:
                        self.assertIn(told, wanted)

    def test_edges(self):
        join, lap = Join(2, [(0, 1), (1, 2), (0, 2)], gone=[2]), Lap(2, [(0, 1), (1, 2), (0, 2)], gone=[2])
        notes = Notes([(1, 2), (2, 4), (0, 9)])
        for market in (join, lap):
            self.same([shown_price(market, number, notes) for number in (0, 1, 2)], [0, 3, None])
            self.same([free_stock(market, number, [2]) is None for number in (0, 1, 2)], [False, False, True])
            self.same(free_stock(market, 1, [0]), None)
            self.same(shows_price(market, 2, notes, (1, 2, 0), [], 10 ** 30), True)
            self.same([shows_price(market, 1, notes, (2, 4, 0), asked, 5) for asked in ([], [0], [1], [0, 1, 2])],
                      [False, False, True, True])
            self.same(fewest_shown(market, 1), 1)
        self.same([shown_price(join, -1, notes), shown_price(lap, -1, notes)], [None, 0])
        self.same([free_stock(join, -1, []), free_stock(lap, -5, [])], [None, free_stock(lap, -5, [])])
        self.assertTrue(is_a_stock(lap, -5, free_stock(lap, -5, [0, 1])))

    def test_great_markets(self):
        for seed in range(4):
            market = great_ways(seed, 6)
            greatest = strength(market)
            notes = Notes.unknown(60, 10 ** 30)
            world = tuple(10 ** 30 - part for part in range(60))
            for number in (1, greatest):
                blow = blow_at(market, number)
                self.same(fewest_shown(market, number), len(blow))
                self.same(shows_price(market, number, notes, world, blow, 10 ** 30 - 60), True)
                self.same(shows_price(market, number, notes, world, blow[1:], 1), False)
                self.same(free_stock(market, number, blow), None)
                told = free_stock(market, number, blow[1:])
                self.assertTrue(is_a_stock(market, number, told) and not set(told) & set(blow[1:]))
            wide = great_notes(seed, market)
            self.same(shown_price(market, 2, wide), price_of(market, 2, wide.lows))


class Wrong(Case):
    """Promises 1 and 2."""

    def test_numbers(self):
        market, notes = Join(1, [(0, 1)] * 3), Notes.unknown(3, 4)
        for value in NO_INTEGERS:
            self.fails(BadNumber, {"name": "number"}, shown_price, market, value, notes)
            self.fails(BadNumber, {"name": "number"}, shows_price, market, value, notes, (1, 1, 1), [], 1)
            self.fails(BadNumber, {"name": "number"}, free_stock, market, value, [])
        for value in NO_INTEGERS + (-1, 0, 4, 10 ** 30):
            self.fails(BadNumber, {"name": "number"}, fewest_shown, market, value)
        self.same([fewest_shown(market, number) for number in (1, 2, 3)], [3, 2, 1])
        for kind in (Join, Lap):
            self.fails(BadNumber, {"name": "number"}, fewest_shown, kind(2, [(0, 1)]), 1)
        for value in NO_INTEGERS + (-1,):
            self.fails(BadNumber, {"name": "price"}, shows_price, market, 1, notes, (1, 1, 1), [], value)

    def test_orders(self):
        for kind in (Join, Lap):
            market, notes = kind(1, [(0, 1)] * 3), Notes.unknown(3, 4)
            self.order(shown_price, (market, 1, notes), (
                (1, None, BadNumber, {"name": "number"}), (2, Notes.unknown(2, 4), OtherSize, {"size": 2}),
            ))
            self.order(shows_price, (market, 1, notes, (1, 1, 1), [0], 1), (
                (1, None, BadNumber, {"name": "number"}), (3, (1, 1), BadWorld, {"place": -1}),
                (4, [0, 3], BadSet, {"place": 1}), (5, -1, BadNumber, {"name": "price"}),
                (2, Notes.unknown(4, 4), OtherSize, {"size": 4}), (3, (1, 5, 5), NotAgreeing, {"part": 1}),
            ))
            self.order(free_stock, (market, 1, [0]), (
                (1, "1", BadNumber, {"name": "number"}), (2, [-1], BadSet, {"place": 0}),
            ))
            for value in NO_ROWS:
                self.fails(BadSet, {"place": -1}, free_stock, market, 1, value)
                self.fails(BadSet, {"place": -1}, shows_price, market, 1, notes, (1, 1, 1), value, 1)
                self.fails(BadWorld, {"place": -1}, shows_price, market, 1, notes, value, [], 1)
            # A price that does not agree is told for parts that are not asked, too.
            self.fails(NotAgreeing, {"part": 2}, shows_price, market, 1, notes, (1, 1, 5), [0], 1)

    def test_arguments_stay(self):
        market, notes = Join(1, [(0, 1), (0, 1)]), Notes([(0, 6), (0, 9)])
        world, parts = [2, 9], [1, 0]
        first = (shows_price(market, 1, notes, world, parts, 2), free_stock(market, 1, parts[:1]))
        self.assertEqual((world, parts, notes.stretches), ([2, 9], [1, 0], ((0, 6), (0, 9))))
        self.same(first, (shows_price(market, 1, notes, (2, 9), (0, 1), 2), free_stock(market, 1, (1,))))
        self.same(first, (True, (0,)))


if __name__ == "__main__":
    unittest.main()
