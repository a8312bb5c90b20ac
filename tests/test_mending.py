import itertools
import random
import unittest

from keptparts.cheapest import cheapest, price_of
from keptparts.errors import (
    BadDemand, BadPart, BadSet, BadWorld, IsGone, NotAStock, OtherSize,
)
from keptparts.heights import Heights, fits, value_of
from keptparts.losing import Losing
from keptparts.markets import Join, Lap
from keptparts.mending import (
    mend, mend_heights, mend_in_turn, mend_notes, mend_one, mend_price, mend_rings,
)
from keptparts.notes import Notes
from keptparts.pairs import with_ring
from keptparts.possible import possible_stocks
from keptparts.regrets import regret
from keptparts.rings import is_ring, is_walk
from keptparts.safety import is_safe, safe_heights
from keptparts.tables import Table
from support import (
    NO_INTEGERS, NO_ROWS, Case, agreeing, all_sets, behind, best_price, best_stocks, covers, difference, great_market,
    is_a_stock, lost_stocks, more_by, price, random_cases, random_notes, random_stock, random_world, ring_moves,
    row_of, sorted_pairs, walk_moves,
)


def mend_by_words(world, found, stock, lost):
    """The least price of what is bought to hold a stock behind the loss, None if there is none."""
    return min([price(world, set(other) - set(stock)) for other in lost_stocks(found, lost)], default=None)


def free_world(world, kept):
    return tuple(0 if part in kept else number for part, number in enumerate(world))


def some_lots(chance, market, many):
    """Some losses, the empty one and that of all parts among them."""
    lots = [(), market.there()]
    for _ in range(many):
        lots.append(tuple(chance.sample(market.there(), chance.randint(0, len(market.there())))))
    return lots


class Mending(Case):
    """Promises 83 and 84."""

    def test_small_markets(self):
        none = dear = over = rings = 0
        for seed, market, demand, found in random_cases(120, most_places=3, most_parts=7):
            chance = random.Random(seed)
            world = random_world(seed, market)
            for stock in found[:4]:
                for lost in some_lots(chance, market, 4):
                    wanted = mend_by_words(world, found, stock, lost)
                    told = (market, demand, list(world), list(stock)[::-1], list(lost))
                    self.same(mend_price(*told), wanted)
                    kept = set(stock) - set(lost)
                    self.same(price_of(market.lose(lost), demand, free_world(world, kept)), wanted)
                    moves, mended = mend_rings(*told), mend(*told)
                    if wanted is None:
                        none += 1
                        self.same((moves, mended, mend_heights(*told)), (None, None, None))
                        continue
                    self.check_rings(market, demand, stock, lost, moves)
                    rings += len(moves) > 1
                    after = stock
                    for move in moves:
                        after = behind(after, move)
                    for target in (after, mended):
                        self.assertIn(target, lost_stocks(found, lost))
                        self.assertEqual(price(world, set(target) - set(stock)), wanted)
                    dear += wanted > 0
                    over += covers(market, stock) != row_of(market, demand)
        self.assertTrue(none > 50 and dear > 50 and over > 50 and rings > 20, (none, dear, over, rings))

    def check_rings(self, market, demand, stock, lost, moves):
        """Rings of the stock without a common part, each with a lost part among its outs."""
        self.assertIs(type(moves), list)
        gone = set(stock) & set(lost)
        if not gone:
            self.same(moves, [])
        self.assertLessEqual(len(moves), len(gone))
        parts = [part for outs, ins in moves for part in outs + ins]
        self.assertEqual(len(parts), len(set(parts)))
        self.assertEqual({part for outs, _ in moves for part in outs} & set(lost), gone)
        self.assertFalse({part for _, ins in moves for part in ins} & set(lost))
        told = ring_moves(market, demand, stock) if market.many < 9 else None
        for outs, ins in moves:
            self.assertTrue(set(outs) & gone)
            self.same(is_ring(market, demand, stock, outs, ins), True)
            if told is not None:
                self.assertIn((outs, ins), told)

    def test_one_ring_for_each_lost_part(self):
        """Join: if no two lost parts are with one another, each ring has just one of them."""
        checked = 0
        for seed, market, demand, found in random_cases(80, kind=Join, most_parts=7):
            together, _ = sorted_pairs(market, demand, found)
            world = random_world(seed, market)
            for stock in found[:3]:
                for lost in all_sets(stock):
                    if set(itertools.permutations(lost, 2)) & together or not lost_stocks(found, lost):
                        continue
                    moves = mend_rings(market, demand, world, stock, lost)
                    self.assertEqual(sorted(len(set(outs) & set(lost)) for outs, _ in moves), [1] * len(lost))
                    checked += len(lost) > 1
        self.assertGreater(checked, 20)

    def test_cheapest_stocks_come_by_rings(self):
        """Promise 84 for a cheapest stock, changed prices, and one run covered once more."""
        checked = walks = 0
        for seed, market, demand, found in random_cases(80, most_parts=5, most_places=3):
            chance = random.Random(seed)
            world = random_world(seed, market)
            stock = best_stocks(world, found)[0]
            lost = tuple(chance.sample(market.there(), min(1, len(market.there()))))
            changed = tuple(chance.sample(range(market.many), min(1, market.many)))
            after = tuple(number + 3 if part in changed else number for part, number in enumerate(world))
            rest = lost_stocks(found, lost)
            must = set(changed) | set(lost) & set(stock)
            moves = [move for move in ring_moves(market, demand, stock) if must & set(move[0] + move[1])]
            if rest:
                checked += 1
                self.assertTrue(self.reached(stock, moves) & set(best_stocks(after, rest)))
            run = (0, market.size)
            more = more_by(market, demand, run, 1)
            longer = lost_stocks([other for other in all_sets(market.there()) if is_a_stock(market, more, other)], lost)
            if rest and longer:
                walks += 1
                ends = set()
                for walk in walk_moves(market, demand, stock, *run):
                    parts = set(walk[0] + walk[1])
                    free = [move for move in moves if not parts & set(move[0] + move[1])]
                    ends |= self.reached(behind(stock, walk), free)
                self.assertTrue(ends & set(best_stocks(after, longer)))
        self.assertTrue(checked > 30 and walks > 10, (checked, walks))

    def reached(self, stock, moves):
        """All sets behind moves without a common part."""
        told = {(stock, ())}
        for move in moves:
            parts = move[0] + move[1]
            told |= {(behind(before, move), used + parts) for before, used in told if not set(used) & set(parts)}
        return {before for before, _ in told}

    def test_in_words(self):
        market = Join(3, [(0, 1), (0, 2), (1, 2), (1, 3), (2, 3), (0, 3)], gone=[5])
        world = (1, 10, 1, 10, 1, 0)
        self.same(mend_rings(market, 1, world, (0, 2, 4), ()), [])
        self.same(mend(market, 1, world, [4, 2, 0], [1, 3]), (0, 2, 4))
        self.same(mend_price(market, 1, world, (0, 2, 4), [1, 3]), 0)
        self.same(mend_price(market, 1, world, (0, 2, 4), (0, 2)), 10)
        self.same(mend_price(market, 1, world, (0, 2, 4), (0, 1)), None)
        self.same(mend(market, 1, world, (0, 2, 4), (0, 1)), None)
        self.same(mend_heights(market, 1, world, (0, 2, 4), (0, 1)), None)
        self.same(mend(market, 1, world, (0, 2, 4), [2, 1]), (0, 3))
        # Parts that are kept need not be in the mended stock.
        self.same(mend_rings(market, 1, world, (0, 2, 4), [2, 3]), [((0, 2), (1,))])
        lap = Lap(2, [(0, 1), (0, 1), (1, 2), (0, 2)])
        self.same(mend_rings(lap, 1, (1, 2, 3, 4), (0, 1, 2), [0]), [((0,), ())])
        self.same(mend(lap, 1, (1, 2, 3, 4), (0, 1, 2), [0]), (1, 2))
        self.same(mend_price(lap, 1, (1, 2, 3, 4), (0, 2), [2]), 4)
        for kind in (Join, Lap):
            self.same((mend_price(kind(1, []), 0, [], [], []), mend_rings(kind(1, []), 0, [], [], [])), (0, []))
            self.same((mend(kind(1, []), 0, [], [], []), mend_in_turn(kind(1, []), 0, [], [], [])), ((), []))

    def test_great_markets(self):
        mended = 0
        for seed in range(20):
            market = great_market(seed)
            chosen, demand = random_stock(seed, market)
            world = random_world(seed, market, 10 ** 30)
            chance = random.Random(seed)
            for stock in (chosen, cheapest(market, demand, world)):
                lost = chance.sample(market.there(), 4)
                wanted = price_of(market.lose(lost), demand, free_world(world, set(stock) - set(lost)))
                self.same(mend_price(market, demand, world, stock, lost), wanted)
                moves = mend_rings(market, demand, world, stock, lost)
                self.same(moves is None, wanted is None)
                if moves is None:
                    continue
                mended += 1
                self.check_rings(market, demand, stock, lost, moves)
                after = mend(market, demand, world, stock, lost)
                self.assertTrue(is_a_stock(market.lose(lost), demand, after))
                self.assertEqual(price(world, set(after) - set(stock)), wanted)
                heights = mend_heights(market, demand, world, stock, lost)
                free = free_world(world, set(stock) - set(lost))
                self.same(value_of(market.lose(lost), demand, free, heights), wanted)
        self.assertGreater(mended, 5)


class OnePart(Case):
    """Promise 85."""

    def test_small_markets(self):
        none = some = bare = 0
        for seed, market, demand, found in random_cases(120):
            world = random_world(seed, market)
            for stock in found[:4]:
                for part in stock:
                    wanted = mend_by_words(world, found, stock, [part])
                    told = mend_one(market, demand, list(world), list(stock)[::-1], part)
                    self.same(mend_price(market, demand, world, stock, [part]), wanted)
                    if wanted is None:
                        none += 1
                        self.assertIsNone(told)
                        continue
                    some += 1
                    bare += told[1] == ((), ())
                    self.assertIs(type(told), tuple)
                    self.same(told[0], wanted)
                    rest, less = market.lose([part]), more_by(market, demand, market.runs[part], -1)
                    kept = tuple(other for other in stock if other != part)
                    self.same(is_walk(rest, less, kept, market.runs[part], *told[1]), True)
                    self.assertEqual(price(world, told[1][1]), wanted)
                    self.assertIn(behind(kept, told[1]), lost_stocks(found, [part]))
        self.assertTrue(none > 100 and some > 80 and bare > 10, (none, some, bare))

    def test_heights(self):
        """The greatest worth of the run in heights that bear all other parts."""
        checked = 0
        for seed, market, demand, found in random_cases(60, most_places=3, most_parts=5):
            world = random_world(seed, market, 4)
            chance = random.Random(seed)
            stock = chance.choice(found)
            for part in stock:
                told = mend_one(market, demand, world, stock, part)
                worths = []
                for row in itertools.product(range(-9, 10), repeat=market.size):
                    levels = (0,) + row
                    if self.bears(market, demand, world, stock, part, levels):
                        begin, end = market.runs[part]
                        worths.append(levels[end] - levels[begin])
                if told is None:
                    self.assertGreaterEqual(max(worths), 9)
                else:
                    checked += 1
                    self.assertEqual(max(worths), told[0])
        self.assertGreater(checked, 20)

    def bears(self, market, demand, world, stock, part, levels):
        for other, (begin, end) in enumerate(market.runs):
            worth = levels[end] - levels[begin]
            if other == part or other in market.gone:
                continue
            if worth < 0 if other in stock else worth > world[other]:
                return False
        if market.KIND == "join":
            return True
        counts, row = covers(market, stock), row_of(market, demand)
        rises = [levels[j + 1] - levels[j] for j in range(market.size)]
        return min(rises) >= 0 and all(not rise or a <= b for rise, a, b in zip(rises, counts, row))

    def test_unseen_prices(self):
        wide = 0
        for seed, market, demand, found in random_cases(60, most_parts=5):
            notes = random_notes(seed, market)
            for stock in found[:3]:
                for part in stock:
                    ends = [mend_one(market, demand, world, stock, part) for world in (notes.lows, notes.highs)]
                    rows = {mend_by_words(world, found, stock, [part]) for world in agreeing(notes)}
                    if ends[0] is None:
                        self.assertEqual((ends[1], rows), (None, {None}))
                    else:
                        self.assertEqual(sorted(rows), list(range(ends[0][0], ends[1][0] + 1)))
                        wide += len(rows) > 1
        self.assertGreater(wide, 20)

    def test_great_markets(self):
        told = 0
        for seed in range(8):
            market = great_market(seed)
            stock, demand = random_stock(seed, market)
            world = random_world(seed, market, 10 ** 30)
            for part in stock[::5]:
                found = mend_one(market, demand, world, stock, part)
                wanted = mend_price(market, demand, world, stock, [part])
                self.same(None if found is None else found[0], wanted)
                told += found is not None
        self.assertGreater(told, 8)


class HeightsOfMending(Case):
    """Promise 86, and the value for both kinds."""

    def test_small_markets(self):
        for seed, market, demand, found in random_cases(100):
            chance = random.Random(seed)
            world = random_world(seed, market)
            for stock in found[:3]:
                for lost in some_lots(chance, market, 2):
                    heights = mend_heights(market, demand, list(world), list(stock)[::-1], list(lost))
                    wanted = mend_by_words(world, found, stock, lost)
                    self.same(heights is None, wanted is None)
                    if heights is None:
                        continue
                    self.assertIs(type(heights), Heights)
                    rest, free = market.lose(lost), free_world(world, set(stock) - set(lost))
                    self.same(value_of(rest, demand, free, heights), wanted)
                    if market.KIND == "join":
                        self.same(self.number(market, world, stock, lost, heights), wanted)
                        for _ in range(5):
                            other = Heights([chance.randint(-9, 9) for _ in range(market.size + 1)])
                            self.assertLessEqual(self.number(market, world, stock, lost, other), wanted)

    def number(self, market, world, stock, lost, heights):
        total = 0
        for part, (begin, end) in enumerate(market.runs):
            worth = heights[end] - heights[begin]
            if part in stock:
                total += worth if part in lost else min(0, worth)
            elif part not in market.gone and part not in lost:
                total -= max(0, worth - world[part])
        return total


class UnseenPrices(Case):
    """Promise 87."""

    def test_mend_notes(self):
        market = Join(2, [(0, 2), (0, 1), (1, 2), (0, 2)], gone=[3])
        notes = Notes([(1, 5), (2, 3), (4, 10 ** 30), (7, 8)])
        told = mend_notes(market, notes, [2, 1], [1, 0])
        self.same(told.stretches, ((1, 5), (2, 3), (0, 0), (7, 8)))
        self.assertIs(type(told), Notes)
        self.same(mend_notes(market, notes, [3, 0], []).stretches, ((0, 0), (2, 3), (4, 10 ** 30), (0, 0)))
        self.same(mend_notes(market, notes, [], [0]) == notes, True)
        self.same(notes.stretches, ((1, 5), (2, 3), (4, 10 ** 30), (7, 8)))

    def test_small_markets(self):
        wide = safe = unsafe = 0
        for seed, market, demand, found in random_cases(100, most_places=3, most_parts=6):
            notes = random_notes(seed, market)
            chance = random.Random(seed)
            told = agreeing(notes)
            for stock in found[:3]:
                for lost in some_lots(chance, market, 1)[::2]:
                    rest, free = market.lose(lost), mend_notes(market, notes, stock, lost)
                    ends = [mend_price(market, demand, world, stock, lost) for world in (notes.lows, notes.highs)]
                    rows = {mend_by_words(world, found, stock, lost) for world in told}
                    self.assertEqual(rows, {None} if None in ends else set(range(ends[0], ends[1] + 1)))
                    wide += len(rows) > 1
                    for other in lost_stocks(found, lost):
                        every = all(
                            price(world, set(other) - set(stock)) == mend_by_words(world, found, stock, lost)
                            for world in told
                        )
                        self.same(is_safe(rest, demand, free, other), every)
                        heights = safe_heights(rest, demand, free, other)
                        safe += every
                        unsafe += not every
                        if every:
                            self.check_heights(market, notes, stock, lost, other, heights)
        self.assertTrue(wide > 10 and safe > 40 and unsafe > 40, (wide, safe, unsafe))

    def check_heights(self, market, notes, stock, lost, other, heights):
        for part, (begin, end) in enumerate(market.runs):
            worth = heights[end] - heights[begin]
            if part in market.gone or part in lost:
                continue
            if part in stock:
                self.assertTrue(worth >= 0 if part in other else worth <= 0)
            else:
                self.assertTrue(worth >= notes.highs[part] if part in other else worth <= notes.lows[part])


class MendingAndLosing(Case):
    """Promise 88."""

    def test_small_markets(self):
        equal = more = 0
        for seed, market, demand, found in random_cases(100, most_places=3, most_parts=7):
            world = random_world(seed, market)
            losing = Losing(market, demand, world)
            for stock in best_stocks(world, found)[:2]:
                for lost in all_sets(market.there()):
                    rest = lost_stocks(found, lost)
                    if not rest:
                        continue
                    least = losing(lost) + price(world, set(lost) & set(stock))
                    told = mend_price(market, demand, world, stock, lost)
                    self.assertGreaterEqual(told, least)
                    kept = {part for part in stock if part not in lost and world[part] > 0}
                    some = any(kept <= set(other) for other in best_stocks(world, rest))
                    self.assertEqual(told == least, some)
                    equal += some
                    more += not some
        self.assertTrue(equal > 100 and more > 20, (equal, more))


class InTurn(Case):
    """Promise 89."""

    def test_small_markets(self):
        none = dear = unhad = 0
        for seed, market, demand, found in random_cases(150):
            chance = random.Random(seed)
            world = random_world(seed, market)
            for stock in found[:3]:
                row = chance.sample(market.there(), chance.randint(0, len(market.there())))
                told = mend_in_turn(market, demand, list(world), list(stock)[::-1], row)
                self.assertIs(type(told), list)
                self.same(len(told), len(row))
                for k, payment in enumerate(told):
                    some = bool(lost_stocks(found, row[:k + 1]))
                    self.assertEqual(payment is not None, some)
                    self.assertTrue(payment is None or payment >= 0)
                if row:
                    self.same(told[0], mend_by_words(world, found, stock, row[:1]))
                    if row[0] not in stock:
                        unhad += 1
                        self.same(told[0], 0)
                none += None in told
                for many in range(1, len(row) + 1):
                    whole = mend_by_words(world, found, stock, row[:many])
                    if whole is not None:
                        self.assertTrue(whole <= sum(told[:many]) <= many * whole)
                        self.assertTrue(max(told[:many]) <= whole)
                        dear += sum(told[:many]) > whole
                self.check_payments(market, world, found, stock, row, told)
        self.assertTrue(none > 40 and dear > 2 and unhad > 40, (none, dear, unhad))

    def check_payments(self, market, world, found, stock, row, told):
        """Some way of buying sets of least price pays just what is told."""
        states = {tuple(stock)}
        for k, part in enumerate(row):
            rest = lost_stocks(found, row[:k + 1])
            after = set()
            for had in states:
                left = set(had) - {part}
                if part not in had:
                    prices = {0: {tuple(sorted(left))}} if rest else {}
                else:
                    prices = {}
                    for other in rest:
                        bought = set(other) - left
                        prices.setdefault(price(world, bought), set()).add(tuple(sorted(left | bought)))
                least = min(prices, default=None)
                if least == told[k] and least is not None:
                    after |= prices[least]
            if told[k] is None:
                return
            self.assertTrue(after)
            states = after

    def test_in_words(self):
        for kind in (Join, Lap):
            market = kind(1, [(0, 1)] * 5, gone=[4])
            world = (1, 2, 4, 8, 0)
            self.same(mend_in_turn(market, 1, world, [0], [0, 1, 2, 3]), [2, 4, 8, None])
            self.same(mend_in_turn(market, 1, world, [0], [3, 0, 1, 2]), [0, 2, 4, None])
            self.same(mend_in_turn(market, 1, world, [0], (2, 1, 0, 3)), [0, 0, 8, None])
            self.same(mend_in_turn(market, 2, world, [0, 1], (3, 1, 2, 0)), [0, 4, None, None])
            self.same(mend_in_turn(market, 4, world, [0, 1, 2, 3], (3, 1)), [None, None])
            self.same(mend_in_turn(market, 1, world, [0], []), [])
        # What is bought is had, and what is had is not given back.
        market = Join(2, [(0, 2), (0, 1), (1, 2), (0, 2)])
        self.same(mend_in_turn(market, 1, (5, 1, 1, 9), [0], [0, 1, 2]), [2, 9, 0])
        self.same(mend_in_turn(Lap(2, market.runs), 1, (5, 1, 1, 9), [0], [0, 1, 2]), [2, 9, 0])

    def test_great_markets(self):
        for seed in range(6):
            market = great_market(seed)
            stock, demand = random_stock(seed, market)
            world = random_world(seed, market, 10 ** 30)
            row = random.Random(seed).sample(market.there(), 5)
            told = mend_in_turn(market, demand, world, stock, row)
            for many in range(1, 6):
                whole = mend_price(market, demand, world, stock, row[:many])
                if whole is None:
                    self.assertIsNone(told[many - 1])
                else:
                    self.assertTrue(whole <= sum(told[:many]) <= many * whole and max(told[:many]) <= whole)
            self.same(told[0], mend_price(market, demand, world, stock, row[:1]))


class BesideSafe(Case):
    """Promise 90."""

    def test_small_markets(self):
        wide = sums = 0
        for seed, market, demand, found in random_cases(250):
            notes = random_notes(seed, market, 12, 3)
            told = agreeing(notes)
            for stock in [stock for stock in found if is_safe(market, demand, notes, stock)][:1]:
                high, low = Losing(market, demand, notes.high_on(stock)), Losing(market, demand, notes.low_on(stock))
                for lost in all_sets(market.there()):
                    rest = lost_stocks(found, lost)
                    if rest:
                        rows = {best_price(world, rest) - best_price(world, found) for world in told}
                        self.assertEqual(sorted(rows), list(range(high(lost), low(lost) + 1)))
                        wide += len(rows) > 1
                if market.KIND == "join":
                    sums += self.check_sums(market, demand, notes, found, stock)
        self.assertTrue(wide > 100 and sums > 20, (wide, sums))

    def check_sums(self, market, demand, notes, found, stock):
        far = 10 ** 9
        checked = 0
        together, opposed = sorted_pairs(market, demand, found)
        for lost in all_sets(stock):
            pairs = set(itertools.permutations(lost, 2))
            rows = {}
            for world in agreeing(notes):
                table = Table(market, demand, world)
                terms = [difference(table.more(market.runs[part]), world[part]) for part in lost]
                loss = difference(best_price(world, lost_stocks(found, lost)), best_price(world, found))
                rows[world] = (far if None in terms else sum(terms), far if loss is None else loss)
            for total, loss in rows.values():
                if not pairs & together:
                    checked += len(lost) > 1
                    self.assertTrue(loss >= total >= rows[notes.high_on(stock)][0])
                if not pairs & opposed:
                    self.assertTrue(loss <= total <= rows[notes.low_on(stock)][0])
        return checked

    def test_shifted_notes(self):
        """Join: with heights added, losses, safe and possible stocks and regrets stay."""
        moved = 0
        for seed, market, demand, found in random_cases(100, kind=Join, most_parts=5):
            chance = random.Random(seed)
            notes = random_notes(seed, market)
            shift = Heights([chance.randint(-2, 2) for _ in range(market.size + 1)])
            worths = shift.worths(market)
            stretches = [(low + by, high + by) for (low, high), by in zip(notes.stretches, worths)]
            if min([low for low, _ in stretches], default=0) < 0:
                continue
            moved += any(worths)
            other = Notes(stretches)
            self.same(possible_stocks(market, demand, other), possible_stocks(market, demand, notes))
            for stock in found[:5]:
                self.same(is_safe(market, demand, other, stock), is_safe(market, demand, notes, stock))
                self.same(regret(market, demand, other, stock), regret(market, demand, notes, stock))
            before, after = Losing(market, demand, notes.lows), Losing(market, demand, other.lows)
            for lost in all_sets(market.there()):
                self.same(after(lost), before(lost))
        self.assertGreater(moved, 20)


class Wrong(Case):
    """Promises 1 and 2."""

    def markets(self):
        return [kind(2, [(0, 2), (0, 1), (1, 2), (0, 2), (0, 1)], gone=[3, 4]) for kind in (Join, Lap)]

    def test_orders(self):
        row = (1, 2, 3, 4, 5)
        demand = (1, [1, None], BadDemand, {"place": 1})
        world = (2, [1, 2, 3, 4, -5], BadWorld, {"place": 4})
        stock = (3, [0, 0], BadSet, {"place": 1})
        for market in self.markets():
            for no_stock, place in (([1], 1), ([3], -1)):
                short = (3, no_stock, NotAStock, {"place": place})
                for function in (mend_price, mend_rings, mend, mend_heights, mend_in_turn):
                    for value, error, fields in (([0, 4, 3], IsGone, {"part": 3}), ([0, 0, 3], BadSet, {"place": 1}),
                                                 (None, BadSet, {"place": -1}), ([5, 3], BadSet, {"place": 0})):
                        self.order(function, (market, 1, row, [0], [0]), (
                            demand, world, stock, (4, value, error, fields), short,
                        ))
                for value, error in ((3, IsGone), (5, BadPart), (True, BadPart)):
                    self.order(mend_one, (market, 1, row, [0], 0), (
                        demand, world, stock, (4, value, error, {"part": value}), short,
                    ))
                self.fails(NotAStock, {"place": place}, mend_one, market, 1, row, no_stock, 2)
            self.fails(BadPart, {"part": 1}, mend_one, market, 1, row, [0], 1)
            notes = Notes.unknown(5, 3)
            for value, error, fields in (([0, 4, 3], IsGone, {"part": 3}), ([0, 0, 3], BadSet, {"place": 1})):
                self.order(mend_notes, (market, notes, [1], [0]), (
                    (2, [0, 0], BadSet, {"place": 1}), (3, value, error, fields),
                    (1, Notes.unknown(4, 3), OtherSize, {"size": 4}),
                ))

    def test_wrong_values(self):
        for market in self.markets():
            row, notes = (1, 2, 3, 4, 5), Notes.unknown(5, 3)
            for wrong in NO_ROWS:
                for function in (mend_price, mend_rings, mend, mend_heights, mend_in_turn, mend_one):
                    self.fails(BadWorld, {"place": -1}, function, market, 1, wrong, wrong, wrong)
                    self.fails(BadSet, {"place": -1}, function, market, 1, row, wrong, wrong)
                self.fails(BadSet, {"place": -1}, mend_notes, market, notes, wrong, wrong)
                self.fails(BadSet, {"place": -1}, mend_notes, market, notes, [1], wrong)
            for wrong in NO_INTEGERS + (-1, 5):
                self.fails(BadPart, {"part": wrong}, mend_one, market, 1, row, [1], wrong)
                self.fails(BadSet, {"place": 1}, mend_in_turn, market, 1, row, [1], [2, wrong])

    def test_arguments_stay(self):
        for market in self.markets():
            demand, world, stock, lost = [1, 1], [3, 1, 1, 0, 0], [2, 1], [2, 0]
            first = (mend_price(market, demand, world, stock, [1]), mend_rings(market, demand, world, stock, [1]),
                     mend(market, demand, world, stock, [1]), mend_in_turn(market, demand, world, stock, lost),
                     mend_heights(market, demand, world, stock, [1]).levels,
                     mend_one(market, demand, world, stock, 1))
            self.assertEqual((demand, world, stock, lost), ([1, 1], [3, 1, 1, 0, 0], [2, 1], [2, 0]))
            world, stock = tuple(world), (1, 2)
            first[1].append("more")
            first[3].append("more")
            again = (mend_price(market, 1, world, stock, (1,)), mend_rings(market, 1, world, stock, (1,)) + ["more"],
                     mend(market, 1, world, stock, (1,)), mend_in_turn(market, 1, world, stock, (2, 0)) + ["more"],
                     mend_heights(market, 1, world, stock, (1,)).levels, mend_one(market, 1, world, stock, 1))
            self.same(first, again)
            self.same(fits(market.lose([1]), 1, free_world(world, [2]), mend(market, 1, world, stock, (1,)),
                           mend_heights(market, 1, world, stock, (1,))), True)
        self.assertIsNone(with_ring(self.markets()[0], 1, 0, 1))


if __name__ == "__main__":
    unittest.main()
