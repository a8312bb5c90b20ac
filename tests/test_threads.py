import random
import unittest

from keptparts.budgets import cost_steps
from keptparts.errors import BadPoint, BadRun, BadWorld, NotJoin
from keptparts.markets import Join, Lap
from keptparts.threads import Beside, EndToEnd, Single, Thread
from support import NO_ROWS, Case, all_sets, covers, price, random_world

WRONG_RUNS = ((-1, 1), (1, 1), (2, 1), (0,), (0, 1, 2), (0, True), (False, 1), (0, 1.0), ("0", "1"), None, 5, "01")


def random_thread(chance, first, last, used, depth=4):
    """A random thread between two points in which each run stands once, None if it finds none."""
    kinds = ["run"] + ["end", "end"] * (last - first > 1) + ["beside"] * (depth > 0)
    kind = chance.choice(kinds)
    if kind == "run" and (first, last) not in used:
        used.add((first, last))
        return Single([first, last])
    if kind == "end":
        point = chance.randint(first + 1, last - 1)
        one = random_thread(chance, first, point, used, depth)
        other = random_thread(chance, point, last, used, depth)
        return None if one is None or other is None else EndToEnd(one, other)
    if kind == "beside":
        one = random_thread(chance, first, last, used, depth - 1)
        other = random_thread(chance, first, last, used, depth - 1)
        return other if one is None else one if other is None else Beside(one, other)
    return None


def threads(many):
    """Random threads with a market over their runs."""
    told = 0
    for seed in range(10 * many):
        chance = random.Random(seed)
        size = chance.randint(1, 5)
        thread = random_thread(chance, 0, size, set())
        if thread is not None and told < many:
            told += 1
            parts = [run for run in runs_of(thread) for _ in range(chance.choice((0, 1, 1, 2, 3)))]
            chance.shuffle(parts)
            gone = [part for part in range(len(parts)) if chance.random() < 0.1]
            yield seed, thread, Join(size, parts, gone=gone)


def runs_of(thread):
    """The runs of a thread, by the words of the document."""
    if isinstance(thread, Single):
        return [(thread.first, thread.last)]
    return runs_of(thread.one) + runs_of(thread.other)


def costs_of(thread, market, world):
    """The costs of a thread, by the words of the document."""
    if isinstance(thread, Single):
        return sorted(world[part] for part in market.parts_over((thread.first, thread.last)))
    one, other = costs_of(thread.one, market, world), costs_of(thread.other, market, world)
    if isinstance(thread, Beside):
        return sorted(one + other)
    return [sum(pair) for pair in zip(one, other)]


def text_of(thread):
    if isinstance(thread, Single):
        return "%d-%d" % (thread.first, thread.last)
    sign = " | " if isinstance(thread, Beside) else " + "
    return "(" + text_of(thread.one) + sign + text_of(thread.other) + ")"


def all_within(thread):
    found = [thread]
    for side in thread:
        found.extend(all_within(side))
    return found


class Making(Case):
    """Promise 107: threads."""

    def test_attributes(self):
        one, other = Single((0, 2)), Single([2, 5])
        self.same((one.first, one.last, other.first, other.last), (0, 2, 2, 5))
        whole = EndToEnd(one, other)
        self.same((whole.first, whole.last), (0, 5))
        self.assertTrue(whole.one is one and whole.other is other)
        beside = Beside(whole, Single((0, 5)))
        self.same((beside.first, beside.last), (0, 5))
        self.assertTrue(beside.one is whole and beside.other.last == 5)
        for thread in (one, whole, beside):
            self.assertIsInstance(thread, Thread)
        base = Thread(3, 7)
        self.same((base.first, base.last), (3, 7))

    def test_iterating(self):
        one, other = Single((0, 2)), Single([2, 5])
        self.assertEqual(list(one), [])
        whole = EndToEnd(one, other)
        self.assertTrue([side is wanted for side, wanted in zip(whole, (one, other))] == [True, True])
        self.assertEqual(len(list(whole)), 2)
        beside = Beside(whole, whole)
        self.assertTrue(all(side is whole for side in beside) and len(list(beside)) == 2)

    def test_wrong(self):
        for run in WRONG_RUNS + NO_ROWS:
            self.fails(BadRun, {"place": -1}, Single, run)
        one, other = Single((0, 2)), Single((3, 5))
        self.fails(BadPoint, {"point": 3}, EndToEnd, one, other)
        self.fails(BadPoint, {"point": 0}, EndToEnd, other, one)
        self.fails(BadPoint, {"point": 0}, EndToEnd, one, one)
        for run in ((0, 3), (1, 2), (2, 4)):
            self.fails(BadRun, {"place": -1}, Beside, one, Single(run))
        # The row of a thread alone has no bound.
        self.same(EndToEnd(Single((0, 40)), Single((40, 99))).last, 99)

    def test_runs_and_words(self):
        kinds = set()
        for seed, thread, market in threads(150):
            runs = runs_of(thread)
            self.same(thread.runs_in(), tuple(sorted(runs)))
            self.same(thread.words(), text_of(thread))
            kinds.add(type(thread))
        self.assertEqual(kinds, {Single, EndToEnd, Beside})
        told = Beside(Single((0, 2)), EndToEnd(Single((0, 1)), Single((1, 2))))
        self.same(told.words(), "(0-2 | (0-1 + 1-2))")
        self.same(EndToEnd(Single((0, 1)), Single((1, 2))).words(), "(0-1 + 1-2)")
        self.same(told.runs_in(), ((0, 1), (0, 2), (1, 2)))
        # A run that stands twice is told once.
        self.same(Beside(told, Single((0, 2))).runs_in(), ((0, 1), (0, 2), (1, 2)))


class Costs(Case):
    """Promise 111: the costs of a thread."""

    def test_small_markets(self):
        empty = 0
        for seed, thread, market in threads(150):
            world = random_world(seed, market)
            for inner in all_within(thread):
                wanted = costs_of(inner, market, world)
                self.same(inner.costs(market, list(world)), wanted)
                self.same(inner.length_in(market), len(wanted))
                empty += not wanted
            # The thread is that of all runs, so its costs are those of the sizes.
            self.same(thread.costs(market, world), cost_steps(market, world))
        self.assertGreater(empty, 20)

    def test_all_sets(self):
        """The first so many costs together are the least price of a set that covers so often."""
        for seed, thread, market in threads(60):
            if market.many > 9:
                continue
            world = random_world(seed, market)
            costs = thread.costs(market, world)
            for number in range(len(costs) + 2):
                prices = [price(world, chosen) for chosen in all_sets(market.there())
                          if covers(market, chosen) == (number,) * market.size]
                self.same(min(prices, default=None), sum(costs[:number]) if number <= len(costs) else None)

    def test_in_words(self):
        market = Join(3, [(0, 1), (1, 3), (0, 1), (0, 3), (1, 3), (0, 1)], gone=[5])
        world = (4, 1, 2, 5, 6, 0)
        short = EndToEnd(Single((0, 1)), Single((1, 3)))
        self.same(short.costs(market, world), [3, 10])
        self.same(Beside(Single((0, 3)), short).costs(market, world), [3, 5, 10])
        self.same(Single((0, 1)).costs(market, world), [2, 4])
        self.same((Single((0, 2)).costs(market, world), Single((0, 2)).length_in(market)), ([], 0))
        self.same(EndToEnd(Single((0, 2)), Single((2, 3))).costs(market, world), [])

    def test_returned_lists(self):
        market, world = Join(2, [(0, 1), (1, 2), (0, 2)]), [1, 2, 4]
        for thread in (Single((0, 1)), EndToEnd(Single((0, 1)), Single((1, 2))),
                       Beside(Single((0, 2)), EndToEnd(Single((0, 1)), Single((1, 2))))):
            first = thread.costs(market, world)
            thread.costs(market, world).append(7)
            self.same(thread.costs(market, tuple(world)), first)
            self.assertEqual(world, [1, 2, 4])

    def test_wrong(self):
        market, lap = Join(2, [(0, 1), (1, 2)]), Lap(2, [(0, 1), (1, 2)])
        for thread in (Single((0, 1)), EndToEnd(Single((0, 1)), Single((1, 2))),
                       Beside(Single((0, 2)), Single((0, 2)))):
            self.fails(NotJoin, {}, thread.costs, lap, None)
            self.fails(NotJoin, {}, thread.length_in, lap)
            self.fails(BadWorld, {"place": -1}, thread.costs, market, (1,))
            self.fails(BadWorld, {"place": 1}, thread.costs, market, [1, -1])


class LeastWith(Case):
    """Promise 113: the smallest thread that has two runs."""

    def test_small_threads(self):
        none = 0
        for seed, thread, market in threads(100):
            runs = runs_of(thread)
            inner = all_within(thread)
            for run in runs + [(0, 9)]:
                for other in runs:
                    found = thread.least_with(list(run), other)
                    having = [one for one in inner if run in runs_of(one) and other in runs_of(one)]
                    if not having:
                        none += 1
                        self.same(found, None)
                        continue
                    least = min(having, key=lambda one: len(runs_of(one)))
                    self.assertIs(found, least)
                    if run == other:
                        self.assertIs(type(found), Single)
        self.assertGreater(none, 50)

    def test_wrong(self):
        threads_told = (Single((0, 2)), EndToEnd(Single((0, 1)), Single((1, 2))), Beside(Single((0, 2)), Single((0, 2))))
        for thread in threads_told:
            for run in WRONG_RUNS:
                self.fails(BadRun, {"place": -1}, thread.least_with, run, (0, 1))
                self.fails(BadRun, {"place": -1}, thread.least_with, (0, 1), run)
            self.same(thread.least_with((0, 50), (0, 1)), None)


if __name__ == "__main__":
    unittest.main()
