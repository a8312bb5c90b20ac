import itertools
import random
import unittest

from keptparts.bridges import bridge, bridge_way, doubled, is_bridge
from keptparts.budgets import cost_steps
from keptparts.buying import Buying
from keptparts.critical import critical_price
from keptparts.crossing import sides
from keptparts.cuts import strength
from keptparts.errors import (
    BadNumber, BadPart, BadRun, BadWorld, IsGone, NotFolding, NotJoin, NoUseful, SamePart,
)
from keptparts.folds import Folding, cost_row, folding_of, sort_in
from keptparts.further import losses_of_two, second_difference
from keptparts.lengths import breaking_world
from keptparts.losing import Losing
from keptparts.markets import Join, Lap
from keptparts.rings import is_ring
from keptparts.threads import Beside, EndToEnd, Single
from keptparts.useful import market_runs, useful_runs
from support import (
    NO_INTEGERS, NO_ROWS, Case, agreeing, all_sets, best_price, bridged_runs, chain_rows, far, folding_runs,
    market_over, random_market, random_notes, random_runs, random_world, ring_moves, sorted_pairs, stocks_by_size, threshold,
)

FIVE = [(0, 1), (0, 2), (1, 2), (1, 3), (2, 3)]
WRONG_RUNS = ((0, 4), (-1, 1), (1, 1), (2, 1), (0,), (0, 1, 2), (0, True), (0, 1.0), None, 5, "01", True)


def folded_by_words(size, runs, choose):
    """The folded points and the pairs that are left; choose tells which of the points to fold."""
    pairs = sorted({run for chain in chain_rows(runs, 0, size) for run in chain})
    folded = []
    while True:
        points = [point for point in range(1, size) if sum(pair[1] == point for pair in pairs) == 1
                  and sum(pair[0] == point for pair in pairs) == 1]
        if not points:
            return tuple(folded), tuple(pairs)
        point = choose(points)
        folded.append(point)
        first = [pair[0] for pair in pairs if pair[1] == point][0]
        last = [pair[1] for pair in pairs if pair[0] == point][0]
        rest = [pair for pair in pairs if point not in pair]
        pairs = sorted(set(rest + [(first, last)]))


def run_sets(many, most=8):
    """Sets of runs, most of which fold; some have useless runs."""
    for seed in range(many):
        chance = random.Random(seed)
        size = chance.randint(1, 5)
        if seed % 3 == 0:
            runs = folding_runs(chance, 0, size, list(range(1, size)))
            if chance.random() < 0.3:
                runs.append(tuple(sorted(chance.sample(range(size + 1), 2))))
        elif seed % 3 == 1 and size > 2:
            runs = bridged_runs(seed, size, most)
        else:
            runs = random_runs(seed, size, most)
        chance.shuffle(runs)
        yield seed, size, runs


def folding_markets(many, least=1, most_parts=8, **more):
    """Markets whose runs fold, of at least this strength, with all their stocks by size."""
    seed = told = 0
    while told < many:
        seed += 1
        chance = random.Random(seed)
        size = chance.randint(2, 4)
        market = market_over(seed, size, folding_runs(chance, 0, size, list(range(1, size))), **more)
        folds = bridge(size, market_runs(market)) is None and useful_runs(size, market_runs(market))
        if folds and len(market.there()) <= most_parts:
            by_size = stocks_by_size(market)
            if len(by_size) > least:
                told += 1
                yield seed, market, by_size


def within(thread):
    found = [thread]
    for side in thread:
        found.extend(within(side))
    return found


class Foldings(Case):
    """Promises 107 and 109: folding."""

    def test_small_sets(self):
        told = {True: 0, False: 0}
        for seed, size, runs in run_sets(300):
            for backwards, choose in ((False, min), (True, max)):
                folding = Folding(size, [list(run) for run in runs], backwards=backwards)
                folded, rest = folded_by_words(size, runs, choose)
                self.same((folding.size, folding.runs), (size, useful_runs(size, runs)))
                self.same((folding.folded, folding.rest), (folded, rest))
                self.same(folding.folds, rest == ((0, size),))
                self.same(folding.thread is not None, folding.folds)
                told[folding.folds] += bool(rest)
                if folding.folds:
                    self.check_thread(folding)
            self.same(Folding(size, runs).rest, Folding(size, runs, backwards=True).rest)
            chance = random.Random(seed)
            for _ in range(4):
                self.same(folded_by_words(size, runs, chance.choice)[1], Folding(size, runs).rest)
        self.assertTrue(min(told.values()) > 40, told)

    def check_thread(self, folding):
        """Every run stands once, and the inner points are those that were folded."""
        inner = within(folding.thread)
        singles = sorted((thread.first, thread.last) for thread in inner if isinstance(thread, Single))
        self.same(tuple(singles), folding.runs)
        self.same((folding.thread.first, folding.thread.last), (0, folding.size))
        points = sorted(thread.one.last for thread in inner if isinstance(thread, EndToEnd))
        self.same(points, sorted(folding.folded))
        for thread in inner:
            if isinstance(thread, Beside):
                self.same([(side.first, side.last) for side in thread], [(thread.first, thread.last)] * 2)

    def test_fold_or_bridge(self):
        for seed, size, runs in run_sets(200):
            folding = Folding(size, runs)
            if folding.runs:
                self.same(folding.folds, bridge(size, runs) is None)
            else:
                self.same((folding.folds, bridge(size, runs)), (False, None))

    def test_edges(self):
        empty = Folding(3, [(0, 1), (2, 3)])
        self.same((empty.size, empty.runs, empty.folded, empty.rest, empty.thread, empty.folds),
                  (3, (), (), (), None, False))
        self.same(Folding(2, []).rest, ())
        one = Folding(4, [(0, 4), [0, 4]])
        self.same((one.folded, one.rest, one.folds, one.thread.words()), ((), ((0, 4),), True, "0-4"))
        self.same(Folding(1, [(0, 1)]).thread.words(), "0-1")
        bad = Folding(3, FIVE)
        self.same((bad.folded, bad.rest, bad.thread, bad.folds), ((), tuple(FIVE), None, False))
        tailed = Folding(5, [(run[0] + 1, run[1] + 1) for run in FIVE] + [(0, 1), (4, 5), (2, 3)])
        self.same((tailed.folded, len(tailed.rest)), ((), 7))

    def test_orders_of_folding(self):
        runs = [(0, 1), (1, 2), (2, 3), (3, 4), (0, 2)]
        forth, back = Folding(4, runs), Folding(4, runs, backwards=True)
        self.same((forth.folded, back.folded), ((1, 2, 3), (3, 1, 2)))
        # A point that was no fold at first comes before greater ones once it is one.
        later = Folding(5, [(0, 1), (1, 3), (0, 2), (2, 3), (3, 4), (4, 5)])
        self.same(later.folded, (1, 2, 3, 4))
        turned = Folding(4, [(0, 3), (0, 1), (1, 2), (2, 3), (3, 4), (1, 3)])
        self.same(turned.folded, (2, 1, 3))

    def test_great_sets(self):
        chain = [(place, place + 1) for place in range(30)]
        folding = Folding(30, chain)
        self.same((folding.folded, folding.folds), (tuple(range(1, 30)), True))
        self.same(Folding(30, chain, backwards=True).folded, tuple(range(29, 0, -1)))
        nested = [(0, end) for end in range(1, 31)] + chain
        self.check_thread(Folding(30, nested))
        for seed in range(10):
            runs = folding_runs(random.Random(seed), 0, 30, list(range(1, 30)), 9)
            for backwards in (False, True):
                self.check_thread(Folding(30, runs, backwards=backwards))


class Costs(Case):
    """Promise 111: the costs of a market that folds."""

    def test_small_markets(self):
        long = 0
        for seed, market, by_size in folding_markets(120, 0):
            world = random_world(seed, market)
            costs = [best_price(world, found) for found in by_size]
            steps = [after - before for before, after in zip(costs, costs[1:])]
            self.same(cost_row(market, list(world)), steps)
            self.same(cost_steps(market, world), steps)
            for backwards in (False, True):
                folding = Folding(market.size, market_runs(market), backwards=backwards)
                self.same(folding.thread.costs(market, world), steps)
                self.same(folding.thread.length_in(market), strength(market))
            long += len(steps) > 1
        self.assertGreater(long, 40)

    def test_folding_of(self):
        for seed in range(60):
            market = random_market(seed, Join)
            one, other = folding_of(market), Folding(market.size, market_runs(market))
            self.same((one.size, one.runs, one.folded, one.rest, one.folds),
                      (other.size, other.runs, other.folded, other.rest, other.folds))
            self.same(one.thread and one.thread.words(), other.thread and other.thread.words())

    def test_no_folding(self):
        bad = Join(3, FIVE + [(0, 3)], gone=[5])
        told = self.fails(NotFolding, {"bridge": bridge(3, FIVE)}, cost_row, bad, [1] * 6)
        self.same(is_bridge(3, FIVE, *told.bridge), True)
        for market in (Join(2, []), Join(2, [(0, 1)]), Join(1, [(0, 1)], gone=[0])):
            self.fails(NoUseful, {}, cost_row, market, [1] * market.many)
        self.same(cost_row(Join(3, FIVE, gone=[2]), [1, 10, 1, 10, 1]), [11, 11])
        self.same(cost_row(Join(1, [(0, 1)] * 3, gone=[1]), (10 ** 30, 5, 0)), [0, 10 ** 30])

    def test_great_markets(self):
        for seed in range(6):
            chance = random.Random(seed)
            runs = sorted(set(folding_runs(chance, 0, 30, list(range(1, 30)), 4)))
            parts = [chance.choice(runs) for _ in range(max(0, 60 - 2 * len(runs)))] + (runs * 2)[:60]
            market = Join(30, parts, gone=[1])
            world = random_world(seed, market, 10 ** 30)
            self.same(cost_row(market, world), cost_steps(market, world))


class Chains(Case):
    """Promise 112: chain against chain."""

    def test_rings_of_markets_that_fold(self):
        rings = 0
        for seed, market, by_size in folding_markets(80):
            for number, found in enumerate(by_size):
                for stock in found:
                    for outs, ins in ring_moves(market, number, stock):
                        rings += 1
                        told = sides(market, outs, ins)
                        self.assertIsNotNone(told)
                        self.same(tuple(tuple(sorted(chain)) for chain in told), (outs, ins))
        self.assertGreater(rings, 200)

    def test_with_the_whole_row(self):
        """Over the runs and the whole row it holds as well if they fold; else some ring is no such one."""
        for seed, size, runs in run_sets(60):
            useful = useful_runs(size, runs)
            if Folding(size, runs).folds:
                market = market_over(seed, size, useful, 1, whole=True)
                if len(market.there()) > 8:
                    continue
                for number, found in enumerate(stocks_by_size(market)):
                    for stock in found:
                        for outs, ins in ring_moves(market, number, stock):
                            self.assertIsNotNone(sides(market, outs, ins))
            elif useful:
                stock, outs, ins = bridge_way(size, runs)
                market = doubled(size, runs).and_run((0, size))
                whole = market.many - 1
                self.same(is_ring(market, 2, stock + (whole,), outs + (whole,), ins), True)
                self.same(sides(market, outs + (whole,), ins), None)

    def test_five(self):
        """For markets over these runs alone it holds, although they do not fold."""
        market = Join(3, FIVE * 2)
        for number in range(3):
            for stock in stocks_by_size(market)[number][:12]:
                for outs, ins in ring_moves(market, number, stock):
                    self.assertIsNotNone(sides(market, outs, ins))
        self.same(Folding(3, FIVE).folds, False)


class Sorts(Case):
    """Promise 113: beside or end to end."""

    def test_small_markets(self):
        told = {"beside": 0, "end to end": 0}
        for seed in range(150):
            market = random_market(seed, Join, most_parts=8) if seed % 2 else next(folding_markets(1))[1]
            runs = market_runs(market)
            chains = chain_rows(runs, 0, market.size)
            useful = [part for part in market.there() if market.runs[part] in useful_runs(market.size, runs)]
            for one, other in itertools.permutations(useful, 2):
                pair = {market.runs[one], market.runs[other]}
                wanted = len(pair) == 2 and any(pair <= set(chain) for chain in chains)
                word = "end to end" if wanted else "beside"
                self.same(sort_in(market, one, other), word)
                told[word] += 1
        self.assertTrue(min(told.values()) > 100, told)

    def test_pairs(self):
        """Parts beside one another are never with, parts end to end never against one another."""
        checked = 0
        for seed, market, by_size in folding_markets(50, 1, 7):
            useful = useful_runs(market.size, market_runs(market))
            for number, found in enumerate(by_size):
                together, opposed = sorted_pairs(market, number, found)
                for one, other in itertools.permutations(market.there(), 2):
                    if market.runs[one] in useful and market.runs[other] in useful:
                        checked += 1
                        barred = opposed if sort_in(market, one, other) == "end to end" else together
                        self.assertNotIn((one, other), barred)
        self.assertGreater(checked, 300)

    def test_smallest_threads(self):
        for seed, market, by_size in folding_markets(60):
            runs = useful_runs(market.size, market_runs(market))
            for backwards in (False, True):
                thread = Folding(market.size, runs, backwards=backwards).thread
                for one, other in itertools.permutations(range(market.many), 2):
                    first, second = market.runs[one], market.runs[other]
                    if one in market.gone or other in market.gone or not {first, second} <= set(runs):
                        continue
                    least = thread.least_with(first, second)
                    if first == second:
                        self.assertIs(type(least), Single)
                    else:
                        laid = EndToEnd if sort_in(market, one, other) == "end to end" else Beside
                        self.assertIs(type(least), laid)

    def test_wrong(self):
        market = Join(3, [(0, 1), (1, 3), (0, 2), (1, 3)], gone=[3])
        for value in NO_INTEGERS + (-1, 4):
            self.fails(BadPart, {"part": value}, sort_in, market, value, 0)
            self.fails(BadPart, {"part": value}, sort_in, market, 0, value)
        # The run (0, 2) is not useful.
        faults = [(0, Lap(3, market.runs, gone=[3]), NotJoin, {})]
        for value, error in ((7, BadPart), (3, IsGone), (2, BadPart)):
            self.order(sort_in, (market, 0, 1), faults + [(1, value, error, {"part": value}),
                                                          (2, 9, BadPart, {"part": 9})])
            self.order(sort_in, (market, 0, 1), faults + [(2, value, error, {"part": value})])
            self.fails(error, {"part": value}, sort_in, market, value, value)
        self.fails(SamePart, {"part": 1}, sort_in, market, 1, 1)
        self.same(sort_in(market, 0, 1), "end to end")
        self.same(sort_in(Join(3, FIVE), 0, 4), "end to end")
        self.same(sort_in(Join(3, FIVE), 0, 1), "beside")


class Decides(Case):
    """Promise 114: what the folding decides."""

    def pairs(self, market):
        useful = useful_runs(market.size, market_runs(market))
        parts = [part for part in market.there() if market.runs[part] in useful]
        return parts, {(one, other): sort_in(market, one, other) for one, other in itertools.permutations(parts, 2)}

    def test_losses(self):
        told = {"beside": 0, "end to end": 0}
        for seed, market, by_size in folding_markets(60, 1, 7):
            parts, sorts = self.pairs(market)
            for number in range(len(by_size)):
                for one, other in itertools.combinations(parts, 2):
                    worlds = [random_world(seed, market)]
                    worlds += [breaking_world(market, number, one, other, word) for word in ("with", "against")]
                    for world in [world for world in worlds if world is not None]:
                        first, second, both = losses_of_two(market, number, world, one, other)
                        alone = far(None) if None in (first, second) else first + second
                        told[sorts[one, other]] += far(both) != alone
                        if sorts[one, other] == "beside":
                            self.assertGreaterEqual(far(both), alone)
                        else:
                            self.assertLessEqual(far(both), alone)
        self.assertTrue(min(told.values()) > 10, told)

    def test_sets_of_parts(self):
        checked = 0
        for seed, market, by_size in folding_markets(40, 1, 6):
            world = random_world(seed, market)
            parts, sorts = self.pairs(market)
            for number in range(1, len(by_size)):
                losing = Losing(market, number, world)
                for lot in all_sets(parts):
                    words = {sorts[pair] for pair in itertools.combinations(lot, 2)}
                    if len(words) != 1:
                        continue
                    checked += len(lot) > 2
                    sign = 1 if words == {"beside"} else -1
                    rows = [losing.loss_of(part) for part in lot]
                    alone = far(None) if None in rows else sum(rows)
                    self.assertGreaterEqual(sign * far(losing(lot)), sign * alone)
                    self.check_further(market, number, world, lot, sign)
        self.assertGreater(checked, 30)

    def check_further(self, market, number, world, lot, sign):
        """A further loss never costs less (beside), or never more (end to end), behind more losses."""
        for more in all_sets(lot[1:]):
            one, two = second_difference(market, number, world, more[1:], more, lot[0])
            self.assertGreaterEqual(sign * far(one), sign * far(two))

    def test_critical_prices(self):
        wide = 0
        for seed, market, by_size in folding_markets(50, 1, 6):
            notes = random_notes(seed, market, 24)
            parts, sorts = self.pairs(market)
            for number, found in enumerate(by_size):
                for part in parts:
                    if all(part in stock for stock in found) or not any(part in stock for stock in found):
                        continue
                    after = [other for other in parts if other != part and sorts[part, other] == "end to end"]
                    rivals = [other for other in parts if other != part and sorts[part, other] == "beside"]
                    rows = [threshold(world, found, part) for world in agreeing(notes)]
                    ends = [critical_price(market, number, notes.high_on(row), part) for row in (after, rivals)]
                    self.same(ends, [min(rows), max(rows)])
                    wide += ends[0] < ends[1]
        self.assertGreater(wide, 40)

    def test_steps_over_worlds(self):
        for seed, market, by_size in folding_markets(40, 1, 6):
            notes = random_notes(seed, market, 24)
            lows, highs = cost_row(market, notes.lows), cost_row(market, notes.highs)
            rows = [cost_row(market, world) for world in agreeing(notes)]
            for number in range(len(lows)):
                self.same(sorted({row[number] for row in rows}), list(range(lows[number], highs[number] + 1)))


class BoughtInTurn(Case):
    """Promise 115: bought one after another."""

    def test_small_markets(self):
        for seed, market, by_size in folding_markets(80, 1, 8):
            world = random_world(seed, market)
            run = Buying(market, world)
            costs = cost_row(market, world)
            self.same([sum(world[part] for part in way) for way in run.buy_many(99)], costs)
            self.same(run.stopped, True)


class Combined(Case):
    """Promise 118: smaller and combined sets."""

    def folds(self, market):
        return folding_of(market).folds

    def test_subsets(self):
        for seed, size, runs in run_sets(80):
            if not Folding(size, runs).folds:
                continue
            for chosen in all_sets(sorted(set(runs))):
                if useful_runs(size, chosen):
                    self.same(Folding(size, chosen).folds, True)

    def test_shapes(self):
        told = {True: 0, False: 0}
        markets = [Join(3, FIVE), Join(2, [(0, 1)]), Join(3, FIVE, gone=[0]), Join(1, [])]
        markets += [Join(size, runs) for _, size, runs in run_sets(14)]
        for one, other in itertools.product(markets, repeat=2):
            both = self.folds(one) and self.folds(other)
            self.same(self.folds(one + other), both)
            told[both] += 1
            useful = [market for market in (one, other) if useful_runs(market.size, market_runs(market))]
            self.same(self.folds(one | other), bool(useful) and all(self.folds(market) for market in useful))
        self.assertTrue(min(told.values()) > 30, told)
        for market in markets:
            self.same(self.folds(~market), self.folds(market))

    def test_lost_parts(self):
        for seed, market, _ in folding_markets(40):
            for part in market.there():
                rest = market - [part]
                self.same(self.folds(rest), bool(useful_runs(rest.size, market_runs(rest))))


class Wrong(Case):
    """Promises 1 and 2."""

    def test_foldings(self):
        for size in NO_INTEGERS + (0, -1, 31):
            self.fails(BadNumber, {"name": "size"}, Folding, size, None)
        for runs in NO_ROWS:
            self.fails(BadRun, {"place": -1}, Folding, 3, runs)
        for run in WRONG_RUNS:
            self.fails(BadRun, {"place": 1}, Folding, 3, [(0, 1), run, run], backwards=True)

    def test_orders(self):
        market, lap = Join(3, [(0, 1), (1, 2)]), Lap(3, [(0, 1), (1, 2)])
        self.fails(NotJoin, {}, folding_of, lap)
        self.order(cost_row, (Join(3, [(0, 1), (1, 3)]), [1, 1]), (
            (0, lap, NotJoin, {}), (1, [1, -1], BadWorld, {"place": 1}), (0, market, NoUseful, {}),
        ))
        self.order(cost_row, (Join(3, FIVE, gone=[2]), [1] * 5), (
            (1, [1] * 4, BadWorld, {"place": -1}), (0, Join(3, FIVE), NotFolding, {"bridge": bridge(3, FIVE)}),
        ))

    def test_arguments_stay(self):
        runs = [[1, 3], [0, 1], [0, 2], [2, 3]]
        folding = Folding(3, runs)
        first = (folding.runs, folding.folded, folding.rest, folding.thread.words())
        runs[0][0] = 0
        runs.clear()
        self.same(first, (folding.runs, folding.folded, folding.rest, folding.thread.words()))
        market, world = Join(3, [(1, 3), (0, 1), (0, 3)]), [1, 2, 9]
        row = cost_row(market, world)
        row.append(7)
        self.assertEqual((world, cost_row(market, tuple(world))), ([1, 2, 9], [3, 9]))


if __name__ == "__main__":
    unittest.main()
