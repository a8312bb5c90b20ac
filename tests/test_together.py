import itertools
import random
import unittest

from keptparts.budgets import cost_steps
from keptparts.cheapest import cheapest, price_of
from keptparts.cuts import strength
from keptparts.foes import worst_loss
from keptparts.growing import going_back, grows, grows_at
from keptparts.leaving import leaving_world
from keptparts.lengths import lengths_world
from keptparts.markets import Join
from keptparts.mending import mend_price
from keptparts.notes import Notes
from keptparts.possible import is_possible, possible_stocks
from keptparts.rings import growing_ways
from keptparts.safety import is_safe
from keptparts.verdicts import four
from keptparts.waiting import Wait
from support import (
    Case, agreeing, all_sets, behind, best_price, best_stocks, far, free_world, lost_stocks, price, random_market,
    random_notes, random_world, stocks, stocks_by_size, walk_moves,
)

FIVE = [(0, 1), (0, 2), (1, 2), (1, 3), (2, 3)]


def join_cases(many):
    """Small join markets with a strength of at least 2, about half of which do not grow."""
    for seed in range(many):
        chance = random.Random(seed)
        if seed % 2:
            runs = FIVE + [chance.choice(FIVE + [(0, 3)]) for _ in range(chance.randint(0, 2))]
            chance.shuffle(runs)
            market = Join(3, runs, gone=[chance.randrange(len(runs))] if seed % 7 == 0 else [])
        else:
            market = random_market(seed, Join, most_places=3, most_parts=7)
        by_size = stocks_by_size(market)
        if len(by_size) > 2:
            yield seed, market, by_size


class NotesAndGrowth(Case):
    """Promise 102: notes and growth."""

    def test_ends_of_steps(self):
        wide = 0
        for seed, market, by_size in join_cases(60):
            notes = random_notes(seed, market, 24)
            rows = [cost_steps(market, world) for world in agreeing(notes)]
            lows, highs = cost_steps(market, notes.lows), cost_steps(market, notes.highs)
            for number in range(len(by_size) - 1):
                if not grows_at(market, number):
                    continue
                told = sorted({row[number] for row in rows})
                self.same(told, list(range(lows[number], highs[number] + 1)))
                wide += len(told) > 2
                for stock in by_size[number]:
                    if is_safe(market, number, notes, stock):
                        high, low = (cost_steps(market, world) for world in (notes.high_on(stock), notes.low_on(stock)))
                        self.same((high[number], low[number]), (lows[number], highs[number]))
                        if number and grows_at(market, number - 1):
                            self.same((high[number - 1], low[number - 1]), (highs[number - 1], lows[number - 1]))
        self.assertGreater(wide, 20)

    def test_safe_stocks(self):
        """A safe stock and a 1-stock of the rest are safe together exactly if the 1-stock is safe there."""
        told = {True: 0, False: 0}
        for seed, market, by_size in join_cases(80):
            notes = random_notes(seed, market, 12)
            for number in range(len(by_size) - 1):
                if not grows_at(market, number):
                    continue
                for stock in [one for one in by_size[number] if is_safe(market, number, notes, one)]:
                    rest = market - stock
                    for way in stocks(rest, 1):
                        wanted = is_safe(rest, 1, notes, way)
                        self.same(is_safe(market, number + 1, notes, sorted(stock + way)), wanted)
                        told[wanted] += number > 0
        self.assertTrue(min(told.values()) > 5, told)

    def test_possible_stocks(self):
        for seed in range(80):
            market = random_market(seed, most_parts=6)
            by_size = stocks_by_size(market)
            notes = random_notes(seed, market)
            possible = [possible_stocks(market, number, notes) for number in range(len(by_size))]
            for number in range(len(by_size) - 1):
                for stock in possible[number]:
                    ends = [behind(stock, told) for told in growing_ways(market, number, stock)]
                    self.assertTrue(any(is_possible(market, number + 1, notes, other) for other in ends))
                for stock in possible[number + 1]:
                    ends = [behind(stock, told) for told in walk_moves(market, number + 1, stock, market.size, 0)]
                    self.assertTrue(any(other in possible[number] for other in ends))
                if market.KIND == "join" and grows_at(market, number):
                    for one in possible[number]:
                        self.assertTrue(any(set(one) <= set(two) for two in possible[number + 1]))
                    for two in possible[number + 1]:
                        self.assertTrue(any(set(one) <= set(two) for one in possible[number]))


class VerdictsAndGrowth(Case):
    """Promise 103: verdicts and growth."""

    def test_growing_markets(self):
        held = barred = 0
        for seed, market, by_size in join_cases(60):
            notes = random_notes(seed, market, 24)
            for number in range(len(by_size) - 1):
                if not grows_at(market, number):
                    continue
                for part in market.there():
                    small, large = (four(market, size, notes, part) for size in (number, number + 1))
                    if small[0]:
                        held += 1
                        self.same(large[0], True)
                    if not large[3]:
                        barred += 1
                        self.same(small[3], False)
        self.assertTrue(held > 20 and barred > 10, (held, barred))

    def test_where_it_fails(self):
        checked = 0
        for seed, market, by_size in join_cases(60):
            for number in range(len(by_size) - 1):
                found = going_back(market, number)
                if found is None:
                    continue
                notes = Notes.seen_at(lengths_world(market, *found))
                for part in found[1]:
                    checked += 1
                    small, large = (four(market, size, notes, part) for size in (number, number + 1))
                    self.same((small, large), ((True,) * 4, (False,) * 4))
        self.assertGreater(checked, 10)


class GrowthIsLateness(Case):
    """Promise 104: growth is lateness."""

    def test_growing_markets(self):
        checked = 0
        for seed, market, by_size in join_cases(50):
            if not grows(market):
                continue
            world = random_world(seed, market)
            costs = [best_price(world, found) for found in by_size]
            for number in range(len(by_size)):
                stock = best_stocks(world, by_size[number])[0]
                for losses in range(len(by_size) - number):
                    lost, cost = worst_loss(market, number, free_world(world, stock), losses)
                    self.assertLessEqual(price(world, stock) + cost, costs[number + losses])
                    checked += number > losses > 0
                    for within in all_sets(stock):
                        if any(set(within) <= set(other) for other in by_size[losses]):
                            told = mend_price(market, number, world, stock, within)
                            self.assertLessEqual(price(world, stock) + told, costs[number + losses])
        self.assertGreater(checked, 5)

    def test_losses_within_stocks(self):
        """C_r behind the loss of a subset of an i-stock, and C_i, are at most C_(i + r)."""
        for seed, market, by_size in join_cases(40):
            if not grows(market):
                continue
            world = random_world(seed, market)
            costs = [best_price(world, found) for found in by_size]
            for number in range(len(by_size)):
                for stock in by_size[number][:4]:
                    for lost in all_sets(stock):
                        for more in range(len(by_size) - number):
                            told = Wait(market, world, more)(lost)
                            self.assertLessEqual(told + costs[number], costs[number + more])

    def test_where_it_fails(self):
        checked = 0
        for seed, market, by_size in join_cases(80):
            if grows(market):
                worlds = [random_world(seed * 5 + extra, market) for extra in range(5)]
            else:
                checked += 1
                worlds = [lengths_world(market, *going_back(market, 1))]
            kept = []
            for world in worlds:
                costs = [best_price(world, found) for found in by_size]
                for stock in by_size[1]:
                    rest = best_price(world, lost_stocks(by_size[1], stock))
                    kept.append(far(rest) + costs[1] <= costs[2])
            self.assertEqual(all(kept), grows(market))
        self.assertGreater(checked, 10)

    def test_with_the_whole_row(self):
        """In the market with one part more over the whole row: a 2-stock, and the loss of one part."""
        checked = 0
        for seed, market, by_size in join_cases(60):
            larger = market.and_run((0, market.size))
            if grows(market):
                world = random_world(seed, larger)
                found = stocks(larger, 2)
                for stock in best_stocks(world, found):
                    for part in larger.there():
                        told = mend_price(larger, 2, world, stock, [part])
                        if price_of(larger, 3, world) is not None:
                            self.assertLessEqual(price(world, stock) + told, price_of(larger, 3, world))
                continue
            checked += 1
            one, outs, ins = going_back(market, 1)
            world = lengths_world(market, one, outs, ins) + (0,)
            stock = tuple(sorted(one + (market.many,)))
            self.same(cheapest(larger, 2, world), stock)
            told = mend_price(larger, 2, world, stock, [market.many])
            self.assertGreater(far(price(world, stock) + told if told is not None else None),
                               price_of(larger, 3, world))
        self.assertGreater(checked, 10)

    def test_five(self):
        market = Join(3, FIVE)
        world = leaving_world(market, 1, 2)
        self.same((strength(market), price_of(market, 1, world), price_of(market, 2, world)), (2, 1, 4))
        self.same(Wait(market, world, 1)((0, 2, 4)), None)


class WorldsAndSizes(Case):
    """Promises 91 and 102: steps between sizes over worlds."""

    def test_steps_stay_ascending(self):
        for seed, market, by_size in itertools.islice(join_cases(60), 20):
            for world in agreeing(random_notes(seed, market, 12)):
                steps = cost_steps(market, world)
                self.same(steps, sorted(steps))


if __name__ == "__main__":
    unittest.main()
