"""What the tests share: a base class, random markets, and answers found by going through everything."""

import itertools
import random
import unittest

from keptparts.markets import Join, Lap
from keptparts.notes import Notes


class Case(unittest.TestCase):
    """A test case that can look at the errors of the package."""

    def fails(self, error, fields, function, *args, **more):
        """The call raises exactly this error with exactly these fields; the error is returned."""
        with self.assertRaises(error) as caught:
            function(*args, **more)
        told = caught.exception
        self.assertIs(type(told), error)
        self.assertEqual(repr(vars(told)), repr(fields))
        return told

    def order(self, function, rights, faults):
        """Faults are (index, wrong value, error, fields) in the order in which they are told.

        Each one alone raises its error; of two at different arguments the earlier one is raised.
        """
        for k, (index, value, error, fields) in enumerate(faults):
            for later_index, later_value in [(None, None)] + [fault[:2] for fault in faults[k + 1:]]:
                arguments = list(rights)
                if later_index not in (None, index):
                    arguments[later_index] = later_value
                arguments[index] = value
                self.fails(error, fields, function, *arguments)

    def same(self, one, other):
        """The two are equal, also in their kinds (True is not 1, a list is no tuple)."""
        self.assertEqual(repr(one), repr(other))


NO_INTEGERS = (True, False, None, "1", 1.0, (1,), [1], b"1")
NO_ROWS = (True, None, "01", 7, {0: 1}, {0}, b"01", range(2))


def all_sets(parts):
    """All sets of parts, as tuples."""
    parts = tuple(parts)
    return [chosen for size in range(len(parts) + 1) for chosen in itertools.combinations(parts, size)]


def covers(market, chosen):
    """The covers of a set of parts, counted place by place."""
    return tuple(
        sum(1 for part in chosen if market.runs[part][0] <= place < market.runs[part][1])
        for place in range(market.size)
    )


def row_of(market, demand):
    """The demand as a row."""
    return (demand,) * market.size if isinstance(demand, int) else tuple(demand)


def is_a_stock(market, demand, chosen):
    """Whether a set of parts is a stock, by the words of the document."""
    if any(part in market.gone for part in chosen):
        return False
    pairs = zip(covers(market, chosen), row_of(market, demand))
    if market.KIND == "join":
        return all(count == number for count, number in pairs)
    return all(count >= number for count, number in pairs)


def stocks(market, demand):
    """All stocks of a demand, ascending."""
    there = [part for part in range(len(market.runs)) if part not in market.gone]
    return sorted(chosen for chosen in all_sets(there) if is_a_stock(market, demand, chosen))


def steps(market, demand, stock):
    """All steps of a stock, by the words of the document."""
    found = []
    for part, (begin, end) in enumerate(market.runs):
        if part not in market.gone:
            found.append((end, begin, part) if part in stock else (begin, end, part))
    if market.KIND == "lap":
        counts = covers(market, stock)
        for place, number in enumerate(row_of(market, demand)):
            found.append((place + 1, place, -1))
            if counts[place] > number:
                found.append((place, place + 1, -1))
    return sorted(found)


def move(row):
    """The move of a row of steps."""
    outs = tuple(sorted(part for start, end, part in row if part >= 0 and start > end))
    ins = tuple(sorted(part for start, end, part in row if part >= 0 and start < end))
    return outs, ins


def walk_rows(found, start, goal):
    """All rows of steps from one point to another that meet no point twice."""
    rows = []

    def go_on(point, met, row):
        if point == goal:
            rows.append(row)
            return
        for step in found:
            if step[0] == point and step[1] not in met:
                go_on(step[1], met | {step[1]}, row + (step,))

    go_on(start, {start}, ())
    return rows


def walk_moves(market, demand, stock, start, goal):
    """The moves of all walks, ascending, each as often as there are walks with it."""
    return sorted(move(row) for row in walk_rows(steps(market, demand, stock), start, goal))


def ring_rows(market, demand, stock):
    """For the move of each ring its steps."""
    found = steps(market, demand, stock)
    rows = {}
    for first in found:
        for row in walk_rows(found, first[1], first[0]):
            told = move((first,) + row)
            # There and back over a bare place is no ring.
            if told != ((), ()):
                rows[told] = (first,) + row
    return rows


def ring_moves(market, demand, stock):
    """The moves of all rings, ascending, each once."""
    return sorted(ring_rows(market, demand, stock))


def random_market(seed, kind=None, most_places=4, most_parts=6, gone=True):
    """A random market; now and then several parts have the same run, or parts are gone."""
    chance = random.Random(seed)
    size = chance.randint(1, most_places)
    runs = []
    for _ in range(chance.randint(0, most_parts)):
        if runs and chance.random() < 0.25:
            runs.append(chance.choice(runs))
        else:
            runs.append(tuple(sorted(chance.sample(range(size + 1), 2))))
    lost = [part for part in range(len(runs)) if gone and chance.random() < 0.15]
    kind = kind or chance.choice((Join, Lap))
    return kind(size, runs, gone=lost)


def random_demand(seed, market, low=0, high=2):
    """A random demand: mostly one that a random set of parts is a stock of, or the same for all places."""
    chance = random.Random(seed)
    if chance.random() < 0.3:
        return chance.randint(low, high)
    if chance.random() < 0.2:
        return tuple(chance.randint(low - 1, high) for _ in range(market.size))
    there = [part for part in range(len(market.runs)) if part not in market.gone]
    chosen = [part for part in there if chance.random() < 0.5]
    counts = covers(market, chosen)
    if market.KIND == "lap":
        counts = tuple(count - chance.choice((0, 0, 1)) for count in counts)
    return counts


def random_cases(many, **more):
    """Markets with a demand that has a stock, and the list of all its stocks."""
    seed = 0
    told = 0
    while told < many:
        seed += 1
        market = random_market(seed, **more)
        demand = random_demand(seed, market)
        found = stocks(market, demand)
        if found:
            told += 1
            yield seed, market, demand, found


def random_stock(seed, market):
    """A random set of parts that are there, and a demand that it is a stock of."""
    chance = random.Random(seed)
    there = [part for part in range(len(market.runs)) if part not in market.gone]
    chosen = tuple(part for part in there if chance.random() < 0.5)
    counts = covers(market, chosen)
    if market.KIND == "lap":
        counts = tuple(count - chance.choice((0, 0, 1, 2)) for count in counts)
    return chosen, counts


def great_market(seed, kind=None, gone=4):
    """A market of 30 places and 60 parts, some of them gone."""
    chance = random.Random(seed)
    runs = []
    for _ in range(60):
        begin = chance.randint(0, 29)
        runs.append((begin, chance.randint(begin + 1, 30 if seed % 3 else min(30, begin + 6))))
    kind = kind or (Join, Lap)[seed % 2]
    return kind(30, runs, gone=chance.sample(range(60), gone))


def behind(stock, told):
    """The stock behind a move."""
    return tuple(sorted(set(stock) - set(told[0]) | set(told[1])))


def parts_of(moves):
    """All outs and all ins of several moves, each as a sorted list."""
    return sorted(part for told in moves for part in told[0]), sorted(part for told in moves for part in told[1])


def price(world, parts):
    """The sum of the prices of some parts."""
    return sum(world[part] for part in parts)


def random_world(seed, market, top=9):
    """A random world of the market; prices of 0 and equal prices come often."""
    chance = random.Random(seed)
    return tuple(chance.choice((0, 1, chance.randint(0, top))) for _ in market.runs)


def best_price(world, found):
    """The least price of some stocks, None if there are none."""
    return min([price(world, stock) for stock in found], default=None)


def best_stocks(world, found):
    """Those of some stocks that have the least price."""
    least = best_price(world, found)
    return [stock for stock in found if price(world, stock) == least]


def more_by(market, demand, run, by):
    """The demand with a number added at each place of the run, as a tuple."""
    return tuple(number + (by if run[0] <= place < run[1] else 0)
                 for place, number in enumerate(row_of(market, demand)))


def all_runs(size):
    """All runs of a row."""
    return list(itertools.combinations(range(size + 1), 2))


def random_notes(seed, market, most=24, top=4):
    """Random notes for the market with at most so many agreeing worlds; gone parts have stretches too."""
    chance = random.Random(seed)
    stretches = []
    number = 1
    order = list(range(len(market.runs)))
    chance.shuffle(order)
    wide = {}
    for part in order:
        width = chance.choice((0, 1, 1, 2, 3))
        if number * (width + 1) > most:
            width = 0
        number *= width + 1
        wide[part] = width
    for part in range(len(market.runs)):
        low = chance.choice((0, 1, chance.randint(0, top)))
        stretches.append((low, low + wide[part]))
    return Notes(stretches)


def agreeing(notes):
    """All agreeing worlds, ascending."""
    return list(itertools.product(*[range(low, high + 1) for low, high in notes.stretches]))


def great_notes(seed, market, top=10 ** 30):
    """Notes for a great market: some parts are seen, and some stretches are as wide as can be."""
    chance = random.Random(seed)
    stretches = []
    for _ in market.runs:
        ends = sorted((chance.randint(0, top), chance.randint(0, top)))
        stretches.append(chance.choice((tuple(ends), (ends[0], ends[0]), (0, top), (ends[1], ends[1] + 5))))
    return Notes(stretches)


def fit_by_words(market, demand, world, stock, levels):
    """Whether heights fit, by the words of the document."""
    for part, (begin, end) in enumerate(market.runs):
        if part not in market.gone:
            worth = levels[end] - levels[begin]
            if worth < world[part] if part in stock else worth > world[part]:
                return False
    if market.KIND == "join":
        return True
    counts, row = covers(market, stock), row_of(market, demand)
    for place in range(market.size):
        rise = levels[place + 1] - levels[place]
        if rise < 0 or rise > 0 and counts[place] > row[place]:
            return False
    return True


def threshold(world, found, part):
    """The critical price of a loose part, by the words of the document."""
    without = min(price(world, stock) for stock in found if part not in stock)
    return without - min(price(world, stock) - world[part] for stock in found if part in stock)


def loose_parts(market, found):
    """The parts that some, but not all, of the stocks have."""
    return [part for part in range(len(market.runs)) if part not in market.gone
            and any(part in stock for stock in found) and any(part not in stock for stock in found)]


def risen(world, part, by=1):
    """The world in which the price of one part is greater."""
    return tuple(world[:part]) + (world[part] + by,) + tuple(world[part + 1:])


def sorted_pairs(market, demand, found):
    """The pairs of parts that are with, and those that are against one another, by all rings of all stocks."""
    together, apart = set(), set()
    for stock in found:
        for outs, ins in ring_moves(market, demand, stock):
            together |= set(itertools.permutations(outs, 2)) | set(itertools.permutations(ins, 2))
            apart |= set(itertools.product(outs, ins)) | set(itertools.product(ins, outs))
    return together, apart


def lost_stocks(found, lost):
    """The stocks that have none of the lost parts."""
    return [stock for stock in found if not set(stock) & set(lost)]


def difference(one, other):
    """One less other, None if one is None."""
    return None if one is None else one - other


def stocks_by_size(market):
    """For each size from 0 to the strength the ascending list of all stocks of this size."""
    found = []
    for chosen in all_sets(part for part in range(len(market.runs)) if part not in market.gone):
        counts = covers(market, chosen)
        if market.KIND == "lap":
            sizes = range(min(counts) + 1)
        else:
            sizes = [counts[0]] if len(set(counts)) == 1 else []
        for size in sizes:
            found.extend([] for _ in range(len(found), size + 1))
            found[size].append(chosen)
    return [sorted(row) for row in found]


def growing_moves(market, number, stock):
    """The moves of all growing ways of a stock, ascending."""
    return walk_moves(market, number, stock, 0, market.size)


def back_givers(market, by_size, number):
    """All (stock, outs, ins) of growing ways of stocks of this size that have an out."""
    return [(stock, outs, ins) for stock in by_size[number]
            for outs, ins in growing_moves(market, number, stock) if outs]


def free_world(world, kept):
    """The world in which some parts cost nothing."""
    return tuple(0 if part in kept else number for part, number in enumerate(world))


def far(amount):
    """An amount as an integer: None is more than everything."""
    return 10 ** 40 if amount is None else amount


def random_runs(seed, size, most=7):
    """A random set of runs, some of them twice, in any order."""
    chance = random.Random(seed)
    runs = [chance.choice(all_runs(size)) for _ in range(chance.randint(0, most))]
    return runs + [run for run in runs if chance.random() < 0.2]


def market_over(seed, size, runs, most=2, whole=False):
    """A random join market over some runs, with gone parts on any run; whole adds parts over the whole row."""
    chance = random.Random(seed)
    parts = [run for run in sorted(set(runs)) for _ in range(chance.randint(0 if whole else 1, most))]
    chance.shuffle(parts)
    if whole:
        parts.append((0, size))
    gone = []
    if chance.random() < 0.4:
        gone.append(len(parts))
        parts.append(chance.choice(all_runs(size)))
    return Join(size, parts, gone=gone)


def bridge_ends(points):
    """The pairs of points between which the five chains of a bridge lie."""
    s, x, y, t = points
    return (s, x), (s, y), (x, y), (x, t), (y, t)


def bridged_runs(seed, size, most):
    """Runs of which most have a bridge, over a row of at least three places."""
    chance = random.Random(seed)
    points = sorted(chance.sample(range(size + 1), 4))
    runs = [run for run in bridge_ends(points) if chance.random() < 0.95]
    runs += [run for run in ((0, points[0]), (points[3], size)) if run[0] < run[1]]
    runs += random_runs(seed, size, max(0, most - len(runs)) // 2)
    chance.shuffle(runs)
    return runs


def folding_runs(chance, first, last, inner, depth=3):
    """Runs from one point to another that fold; inner are points between that they may use."""
    kind = chance.choice(("run", "end", "end", "beside")) if depth and inner else "run"
    if kind == "run":
        return [(first, last)]
    if kind == "end":
        point = chance.choice(inner)
        before, after = ([other for other in inner if other < point], [other for other in inner if other > point])
        return (folding_runs(chance, first, point, before, depth - 1)
                + folding_runs(chance, point, last, after, depth - 1))
    one = [point for point in inner if chance.random() < 0.5]
    other = [point for point in inner if point not in one]
    return folding_runs(chance, first, last, one, depth - 1) + folding_runs(chance, first, last, other, depth - 1)


def chain_rows(runs, first, last):
    """All chains of different runs from one point to another."""
    if first == last:
        return [()]
    return [(run,) + rest for run in sorted(set(runs)) if run[0] == first and run[1] <= last
            for rest in chain_rows(runs, run[1], last)]


def great_ways(seed, ways, many=60, gone=4, kind=None):
    """A market of 30 places of at least so much strength, with so many parts, some of which are gone."""
    chance = random.Random(seed)
    runs = []
    for _ in range(ways):
        points = [0] + sorted(chance.sample(range(1, 30), chance.randint(0, 4))) + [30]
        runs.extend(zip(points, points[1:]))
    while len(runs) < many:
        begin = chance.randint(0, 29)
        runs.append((begin, chance.randint(begin + 1, 30)))
    order = list(range(many))
    chance.shuffle(order)
    lost = [place for place in range(many) if order[place] >= many - gone]
    return (kind or (Join, Lap)[seed % 2])(30, [runs[number] for number in order], gone=lost)


class Words:
    """What a desk answers, by the words of the document, by all sets of parts and all agreeing worlds."""

    def __init__(self, desk):
        self.desk = desk
        market, number = desk.market, desk.number
        self.left = type(market)(market.size, market.runs, gone=sorted(set(market.gone) | set(desk.loss)))
        kept = set(desk.bought) - set(desk.loss)
        self.stretches = [(0, 0) if part in kept else stretch for part, stretch in enumerate(desk.notes.stretches)]
        self.kept = kept
        self.worlds = list(itertools.product(*[range(low, high + 1) for low, high in self.stretches]))
        self.found = stocks(self.left, number)
        self.larger = stocks(self.left, number + 1)
        costs = [best_price(world, self.found) for world in self.worlds]
        rows = list(zip(self.worlds, costs))
        self.costs = costs
        self.safe = [stock for stock in self.found if all(price(world, stock) == cost for world, cost in rows)]
        self.possible = [stock for stock in self.found if any(price(world, stock) == cost for world, cost in rows)]
        self.verdicts = [self.verdict(part) for part in range(len(market.runs))]

    def verdict(self, part):
        desk = self.desk
        if part in desk.market.gone:
            return "gone"
        if part in desk.loss:
            return "lost"
        if part in self.kept:
            return "kept"
        if not self.found:
            return "short"
        having = [part in stock for stock in self.possible]
        return "in" if all(having) else "unsettled" if any(having) else "out"

    def pay_ends(self):
        return (min(self.costs), max(self.costs)) if self.found else (None, None)

    def next_ends(self):
        if not self.safe:
            return None
        if not self.larger:
            return (None, None)
        steps = [best_price(world, self.larger) - cost for world, cost in zip(self.worlds, self.costs)]
        return (min(steps), max(steps))

    def regret(self, stock):
        return max(price(world, stock) - cost for world, cost in zip(self.worlds, self.costs))
