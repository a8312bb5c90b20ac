import itertools
import random
import unittest

from keptparts.cheapest import cheapest
from keptparts.errors import (
    BadDemand, BadHeights, BadPart, BadSet, BadWorld, NotAgreeing, NotAStock, NotCheapest, NotFitting, OtherRow,
    OtherSize, TooMany,
)
from keptparts.forced import lacking_ring
from keptparts.heights import Heights
from keptparts.markets import Join, Lap
from keptparts.notes import Notes
from keptparts.papers import Told, is_paper, lean_paper, paper_heights, paper_of
from keptparts.safety import is_safe
from support import (
    NO_INTEGERS, NO_ROWS, Case, agreeing, all_sets, best_price, best_stocks, fit_by_words, great_notes, great_ways,
    price, random_cases, random_notes, stocks,
)


def paper_cases(many, most=24, **more):
    """Markets with notes, an agreeing world, a stock that is cheapest in it, and all stocks."""
    for seed, market, demand, found in random_cases(many, **more):
        notes = random_notes(seed, market, most)
        chance = random.Random(seed)
        world = chance.choice(agreeing(notes))
        yield seed, market, demand, found, notes, world, chance.choice(best_stocks(world, found))


def shown(found, notes, world, stock, parts):
    """Whether the parts are a paper, by all agreeing worlds."""
    after = Notes([(world[part],) * 2 if part in parts else stretch for part, stretch in enumerate(notes.stretches)])
    return all(price(other, stock) == best_price(other, found) for other in agreeing(after))


def needed(market, notes, stock, levels):
    """The set Q_h, by the words of the document."""
    told = []
    for part in market.there():
        worth = levels[market.runs[part][1]] - levels[market.runs[part][0]]
        low, high = notes.stretches[part]
        if worth < high if part in stock else worth > low:
            told.append(part)
    return tuple(told)


class Papers(Case):
    """Promise 121: which sets are papers."""

    def test_small_markets(self):
        told = {True: 0, False: 0}
        for seed, market, demand, found, notes, world, stock in paper_cases(150):
            case = (market, demand, notes, list(world), list(stock)[::-1])
            papers = []
            for parts in all_sets(notes.unseen()):
                wanted = shown(found, notes, world, stock, parts)
                self.same(is_paper(*case, list(parts)[::-1]), wanted)
                papers += [parts] * wanted
                told[wanted] += 1
            self.assertIn(notes.unseen(), papers)
            for parts in papers:
                self.assertTrue(all(other in papers for other in all_sets(notes.unseen()) if set(parts) <= set(other)))
            self.same(is_safe(market, demand, notes, stock), () in papers)
            self.check_told(case, found, papers)
        self.assertTrue(min(told.values()) > 100, told)

    def check_told(self, case, found, papers):
        market, demand, notes, world, stock = case
        there = [parts for parts in papers if not set(parts) & set(market.gone)]
        told = Told(*case)
        self.assertIn(told.paper, there)
        self.same(told.fewest, min(len(parts) for parts in papers))
        self.same((len(told), list(told)), (told.fewest, list(told.paper)))
        self.assertIs(type(told.heights), Heights)
        self.assertTrue(fit_by_words(market, demand, world, stock, told.heights.levels))
        self.same(needed(market, notes, stock, told.heights.levels), told.paper)
        for parts in all_sets(notes.unseen()):
            self.same(told.shows(list(parts)[::-1]), parts in papers)

    def test_lean_papers(self):
        left = 0
        for seed, market, demand, found, notes, world, stock in paper_cases(100):
            case = (market, demand, notes, world, stock)
            papers = [parts for parts in all_sets(notes.unseen()) if shown(found, notes, world, stock, parts)]
            for parts in all_sets(notes.unseen()):
                lean = lean_paper(*case, list(parts)[::-1])
                if parts not in papers:
                    self.same(lean, None)
                    continue
                kept = parts
                for part in parts:
                    fewer = tuple(other for other in kept if other != part)
                    kept = fewer if fewer in papers else kept
                self.same(lean, kept)
                left += len(parts) > len(lean) > 0
                self.assertFalse(any(set(other) < set(lean) for other in papers))
                # Each lean paper is what some heights need.
                heights = paper_heights(*case, lean)
                self.same(paper_of(*case, heights), lean)
        self.assertGreater(left, 50)

    def test_gone_parts(self):
        market = Join(1, [(0, 1)] * 4, gone=[1, 3])
        notes = Notes([(1, 5), (0, 5), (2, 9), (0, 0)])
        case = (market, 1, notes, (3, 1, 4, 0), (0,))
        self.same([is_paper(*case, parts) for parts in ([], [1], [0], [1, 2], [0, 1, 2])],
                  [False, False, False, False, True])
        told = Told(*case)
        self.same((told.paper, told.fewest, told.shows([0, 1, 2]), told.shows((0, 2))), ((0, 2), 2, True, True))
        self.same(lean_paper(*case, [0, 1, 2]), (0, 2))
        self.fails(BadPart, {"part": 3}, is_paper, *case, [3, 1])

    def test_empty_paper(self):
        market, notes = Join(1, [(0, 1), (0, 1)]), Notes([(1, 2), (2, 5)])
        case = (market, 1, notes, (2, 3), [0])
        self.same((is_paper(*case, []), lean_paper(*case, [1, 0]), paper_of(*case, Heights([0, 2]))), (True, (), ()))
        told = Told(*case)
        self.same((told.paper, told.fewest, len(told), list(told), told.heights.worth((0, 1))), ((), 0, 0, [], 2))
        # No unseen part: nothing has to be asked.
        seen = (market, 1, Notes([(2, 2), (2, 2)]), (2, 2), [1])
        self.same((is_paper(*seen, ()), lean_paper(*seen, []), Told(*seen).paper, Told(*seen).shows([])),
                  (True, (), (), True))
        self.fails(BadPart, {"part": 0}, Told(*seen).shows, [0, 1])
        for kind in (Join, Lap):
            empty = Told(kind(2, []), 0, Notes([]), [], [])
            self.same((empty.paper, empty.stock, empty.world, empty.demand), ((), (), (), (0, 0)))

    def test_attributes(self):
        market, notes = Lap(2, [(0, 1), (1, 2), (0, 2)]), Notes([(0, 2), (0, 2), (1, 1)])
        world, stock = [0, 0, 1], [1, 0]
        told = Told(market, 1, notes, world, stock)
        world[0] = 9
        stock.clear()
        self.assertTrue(told.market is market and told.notes is notes)
        self.same((told.demand, told.world, told.stock, told.paper, told.fewest),
                  ((1, 1), (0, 0, 1), (0, 1), (0, 1), 2))
        self.assertEqual(notes.stretches, ((0, 2), (0, 2), (1, 1)))

    def test_great_markets(self):
        for seed in range(4):
            market = great_ways(seed, 6)
            notes = great_notes(seed, market)
            chance = random.Random(seed)
            world = tuple(chance.randint(low, high) for low, high in notes.stretches)
            stock = cheapest(market, 2, world)
            case = (market, 2, notes, world, stock)
            self.same(is_paper(*case, notes.unseen()), True)
            lean = lean_paper(*case, notes.unseen())
            self.same(is_paper(*case, lean), True)
            for part in lean:
                self.same(is_paper(*case, [other for other in lean if other != part]), False)
            heights = paper_heights(*case, lean)
            self.same(paper_of(*case, heights), lean)
            few = chance.sample(notes.unseen(), 10)
            sharp = notes.after([part for part in notes.unseen() if part not in few], world)
            told = Told(market, 2, sharp, world, stock)
            self.assertTrue(is_paper(market, 2, sharp, world, stock, told.paper) and set(told.paper) <= set(few))
            self.same(paper_of(market, 2, sharp, world, stock, told.heights), told.paper)
            for part in told.paper:
                self.assertIsNotNone(lacking_ring(market, 2, sharp, world, stock,
                                                  [other for other in few if other != part and other in told.paper]))

    def test_ten_parts(self):
        market = Join(1, [(0, 1)] * 13, gone=[12])
        notes = Notes([(1, 2)] * 11 + [(2, 2), (0, 9)])
        world = [1] + [2] * 12
        self.fails(TooMany, {"number": 11}, Told, market, 1, notes, world, [0])
        told = Told(market, 1, notes.ask(3, 2), world, [0])
        self.same((told.paper, told.fewest), ((0,), 1))
        self.same(is_paper(market, 1, notes, world, [0], [0]), True)
        self.same(lean_paper(market, 1, notes, world, [0], list(range(11))), (1, 2, 3, 4, 5, 6, 7, 8, 9, 10))


class PaperHeights(Case):
    """Promise 124: the heights of a paper."""

    def test_small_markets(self):
        none = some = 0
        for seed, market, demand, found, notes, world, stock in paper_cases(100):
            case = (market, demand, notes, world, stock)
            for parts in all_sets(notes.unseen()):
                heights = paper_heights(*case, parts)
                wanted = shown(found, notes, world, stock, parts)
                self.same(heights is not None, wanted)
                if not wanted:
                    none += 1
                    continue
                some += 1
                after = notes.after(parts, world)
                for other in agreeing(after):
                    self.assertTrue(fit_by_words(market, demand, other, stock, heights.levels))
                told = paper_of(*case, heights)
                self.assertTrue(set(told) <= set(parts))
                self.same(told, needed(market, notes, stock, heights.levels))
        self.assertTrue(none > 60 and some > 100, (none, some))

    def test_all_heights(self):
        """They are just the heights that fit everywhere behind the asks; lesser and greater ones are so, too."""
        several = 0
        for seed, market, demand, found, notes, world, stock in paper_cases(60, 12, most_places=2, most_parts=5):
            for parts in all_sets(notes.unseen()):
                after = agreeing(notes.after(parts, world))
                told = []
                for row in itertools.product(range(-5, 6), repeat=market.size):
                    levels = (0,) + row
                    fit = all(fit_by_words(market, demand, other, stock, levels) for other in after)
                    here = fit_by_words(market, demand, world, stock, levels)
                    self.same(fit, here and set(needed(market, notes, stock, levels)) <= set(parts))
                    told += [Heights(levels)] * fit
                several += len(told) > 1
                for one, other in itertools.combinations(told[:6], 2):
                    for made in (one & other, one | other):
                        self.assertTrue(all(fit_by_words(market, demand, there, stock, made.levels) for there in after))
        self.assertGreater(several, 20)

    def test_numbers(self):
        """For one size: between which numbers h(n) - h(0) lies."""
        checked = 0
        for seed, market, _, _, _, _, _ in paper_cases(80, 12, most_places=2, most_parts=6):
            sizes = [stocks(market, number) for number in range(4)]
            notes = random_notes(seed, market, 12)
            world = random.Random(seed).choice(agreeing(notes))
            for number in (0, 1, 2):
                if not sizes[number]:
                    continue
                stock = best_stocks(world, sizes[number])[0]
                for parts in all_sets(notes.unseen()):
                    if not shown(sizes[number], notes, world, stock, parts):
                        continue
                    after = agreeing(notes.after(parts, world))
                    lower = sizes[number - 1] if number else stocks(market, -1)
                    low = max([price(one, stock) - best_price(one, lower) for one in after if lower], default=-9)
                    high = min([best_price(one, sizes[number + 1]) - price(one, stock) for one in after
                                if sizes[number + 1]], default=9)
                    reached = set()
                    for row in itertools.product(range(-9, 10), repeat=market.size):
                        if all(fit_by_words(market, number, one, stock, (0,) + row) for one in after):
                            reached.add(row[-1])
                    checked += 1
                    self.assertEqual(sorted(one for one in reached if -9 <= one <= 9), list(range(low, high + 1)))
        self.assertGreater(checked, 40)

    def test_paper_of(self):
        """All heights that fit, and the errors of those that do not."""
        fit = missed = 0
        for seed, market, demand, found, notes, world, stock in paper_cases(100, most_places=3):
            case = (market, demand, notes, world, stock)
            chance = random.Random(seed)
            for _ in range(10):
                levels = [chance.randint(-4, 6) for _ in range(market.size + 1)]
                if market.KIND == "lap":
                    levels = sorted(levels)
                if fit_by_words(market, demand, world, stock, levels):
                    fit += 1
                    self.same(paper_of(*case, Heights(levels)), needed(market, notes, stock, levels))
                    continue
                missed += 1
                if market.KIND == "lap":
                    counts = [sum(a <= place < b for a, b in (market.runs[part] for part in stock))
                              for place in range(market.size)]
                    row = (demand,) * market.size if isinstance(demand, int) else demand
                    places = [place for place in range(market.size) if counts[place] > row[place]
                              and levels[place + 1] > levels[place]]
                    if places:
                        self.fails(BadHeights, {"place": places[0]}, paper_of, *case, Heights(levels))
                        continue
                worths = [levels[b] - levels[a] for a, b in market.runs]
                wrong = [part for part in market.there()
                         if (worths[part] < world[part] if part in stock else worths[part] > world[part])]
                self.fails(NotFitting, {"part": wrong[0]}, paper_of, *case, Heights(levels))
        self.assertTrue(fit > 50 and missed > 200, (fit, missed))


class Wrong(Case):
    """Promises 1 and 2."""

    def case(self, kind):
        # Part 3 is gone; part 2 is seen.
        return [kind(2, [(0, 1), (1, 2), (0, 2), (0, 2)], gone=[3]), 1, Notes([(0, 2), (0, 2), (3, 3), (0, 1)]),
                (0, 1, 3, 0), (0, 1)]

    def faults(self):
        forms = [(1, [1, None], BadDemand, {"place": 1}), (3, (0, 0, -1, 0), BadWorld, {"place": 2}),
                 (4, [0, 0], BadSet, {"place": 1})]
        rest = [(2, Notes.unknown(3, 1), OtherSize, {"size": 3}), (3, (0, 3, 3, 0), NotAgreeing, {"part": 1}),
                (4, [3, 0], NotAStock, {"place": -1}), (4, [0], NotAStock, {"place": 1})]
        return forms, rest

    def test_orders(self):
        for kind in (Join, Lap):
            case = self.case(kind)
            forms, rest = self.faults()
            dear = (4, [2], NotCheapest, {"outs": (2,), "ins": (0, 1)})
            self.order(Told, case, forms + rest)
            self.order(Told, case, forms + rest[:2] + [dear])
            for function in (is_paper, lean_paper, paper_heights, lacking_ring):
                told = (5, [0, 4], BadSet, {"place": 1})
                seen = (5, [3, 2], BadPart, {"part": 2})
                self.order(function, case + [[0]], forms + [told] + rest + [seen])
                self.order(function, case + [[0]], rest[:2] + [dear, seen])
            row = (5, Heights([0, 1]), OtherRow, {"size": 1})
            unfit = (5, Heights([0, 0, 0]), NotFitting, {"part": 1})
            self.order(paper_of, case + [Heights([0, 1, 2])], forms + [row] + rest + [unfit])
            self.order(paper_of, case + [Heights([0, 1, 2])], rest[:2] + [dear, unfit])
        case = self.case(Lap)
        falling = (5, Heights([0, -1, 2]), BadHeights, {"place": 0})
        forms, rest = self.faults()
        self.order(paper_of, case + [Heights([0, 1, 2])], forms + [falling] + rest)
        self.fails(NotFitting, {"part": 0}, paper_of, *self.case(Join), Heights([0, -1, 2]))

    def test_overcovered_places(self):
        market = Lap(2, [(0, 2), (1, 2), (0, 1)])
        case = (market, 1, Notes([(0, 4), (0, 0), (5, 5)]), (2, 0, 5), (0, 1))
        self.same(paper_of(*case, Heights([0, 2, 2])), (0,))
        self.fails(BadHeights, {"place": 1}, paper_of, *case, Heights([0, 2, 3]))
        self.fails(BadHeights, {"place": 1}, paper_of, *case, Heights([0, 0, 9]))
        self.fails(BadHeights, {"place": 0}, paper_of, *case, Heights([3, 2, 3]))
        self.fails(NotFitting, {"part": 0}, paper_of, *case, Heights([0, 1, 1]))
        self.fails(NotFitting, {"part": 2}, paper_of, *case, Heights([0, 6, 6]))

    def test_forms(self):
        case = self.case(Join)
        for value in NO_ROWS:
            self.fails(BadSet, {"place": -1}, is_paper, *case, value)
            self.fails(BadWorld, {"place": -1}, Told, *case[:3], value, (0, 1))
            self.fails(BadSet, {"place": -1}, Told, *case[:4], value)
            self.fails(BadSet, {"place": -1}, Told(*case).shows, value)
        for value in NO_INTEGERS + (-1, 4, 0):
            self.fails(BadSet, {"place": 1}, lean_paper, *case, [0, value])
            self.fails(BadSet, {"place": 1}, Told(*case).shows, [0, value])
        self.fails(BadPart, {"part": 2}, Told(*case).shows, [3, 2, 0])
        # A set of parts that is no paper and has a seen part is told by the seen part.
        self.fails(BadPart, {"part": 2}, lean_paper, *case, [2])

    def test_too_many_comes_last(self):
        market = Join(1, [(0, 1)] * 11)
        notes = Notes([(1, 2)] * 11)
        self.order(Told, (market, 1, notes.ask(0, 1), [1] * 11, [1]), (
            (3, [1] + [3] * 10, NotAgreeing, {"part": 1}), (4, [0, 1], NotAStock, {"place": 0}),
            (2, notes, TooMany, {"number": 11}),
        ))

    def test_arguments_stay(self):
        market, notes = Join(1, [(0, 1), (0, 1)]), Notes([(2, 6), (3, 9)])
        demand, world, stock, parts = [1], [2, 9], [0], [1, 0]
        functions = (is_paper, lean_paper, paper_heights)
        first = [repr(function(market, demand, notes, world, stock, parts)) for function in functions[:2]]
        levels = paper_heights(market, demand, notes, world, stock, parts).levels
        self.assertEqual((demand, world, stock, parts, notes.stretches), ([1], [2, 9], [0], [1, 0], ((2, 6), (3, 9))))
        told = [function(market, 1, notes, (2, 9), (0,), (0, 1)) for function in functions]
        self.same((first, levels), ([repr(one) for one in told[:2]], told[2].levels))


if __name__ == "__main__":
    unittest.main()
