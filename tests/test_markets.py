import unittest

from keptparts.errors import BadNumber, BadPart, BadRun, BadSet, IsGone, NotJoin
from keptparts.markets import Join, Lap, Market, check_join, check_run, part_there
from support import NO_INTEGERS, NO_ROWS, Case

NO_RUNS = (
    (0, 4), (-1, 2), (1, 1), (2, 1), (0,), (0, 1, 2), (), [0, 4], (0, True), (False, 1), (0, "1"), (0, None),
    (0.0, 1), "01", None, 5, True, {0: 1, 1: 2}, (None, None),
)


class Making(Case):
    """Promises 3 and 4: rows, runs, markets."""

    def test_attributes(self):
        for kind, word in ((Join, "join"), (Lap, "lap")):
            market = kind(3, [[0, 2], (1, 3), (0, 2)], gone=[2, 0])
            self.same(market.size, 3)
            self.same(market.runs, ((0, 2), (1, 3), (0, 2)))
            self.same(market.gone, (0, 2))
            self.same(market.many, 3)
            self.same(market.KIND, word)
            self.same(kind.KIND, word)
            self.assertIsInstance(market, Market)
        self.assertEqual(Market.KIND, "")

    def test_no_parts(self):
        for kind in (Join, Lap):
            market = kind(1, ())
            self.same((market.many, market.runs, market.gone, market.there()), (0, (), (), ()))
            self.same((len(market), list(market)), (0, []))

    def test_sizes(self):
        for kind in (Join, Lap, Market):
            for size in (1, 30):
                self.same(kind(size, [(0, size)]).size, size)
            for size in NO_INTEGERS + (0, -1, 31, 10 ** 30):
                self.fails(BadNumber, {"name": "size"}, kind, size, [(0, 1)])

    def test_many_parts(self):
        market = Lap(30, [(0, 30)] * 60, gone=[59])
        self.same((market.many, market.gone, len(market.there())), (60, (59,), 59))

    def test_wrong_runs(self):
        for kind in (Join, Lap, Market):
            for runs in NO_ROWS:
                self.fails(BadRun, {"place": -1}, kind, 3, runs)
            for run in NO_RUNS:
                self.fails(BadRun, {"place": 1}, kind, 3, [(0, 3), run, (0, 9)])
                self.fails(BadRun, {"place": 0}, kind, 3, (run,))

    def test_wrong_gone(self):
        for kind in (Join, Lap, Market):
            for gone in NO_ROWS:
                self.fails(BadSet, {"place": -1}, kind, 3, [(0, 3)], gone=gone)
            for part in NO_INTEGERS + (-1, 2):
                self.fails(BadSet, {"place": 1}, kind, 3, [(0, 3), (1, 2)], gone=[0, part])
            self.fails(BadSet, {"place": 1}, kind, 3, [(0, 3), (1, 2)], gone=[1, 1])
            self.fails(BadSet, {"place": 0}, kind, 3, [], gone=[0])

    def test_order_of_the_errors(self):
        for kind in (Join, Lap, Market):
            self.fails(BadNumber, {"name": "size"}, kind, 0, None, gone=None)
            self.fails(BadRun, {"place": -1}, kind, 1, None, gone=None)
            self.fails(BadRun, {"place": 0}, kind, 1, [(0, 2)], gone=None)

    def test_gone_by_keyword_only(self):
        for kind in (Join, Lap, Market):
            with self.assertRaises(TypeError):
                kind(1, [(0, 1)], [0])

    def test_handed_in_lists_stay_apart(self):
        runs = [[0, 1], [1, 2]]
        gone = [1]
        market = Join(2, runs, gone=gone)
        runs[0][1] = 2
        runs.append([0, 2])
        gone.append(0)
        self.same((market.runs, market.gone), (((0, 1), (1, 2)), (1,)))
        self.assertEqual((runs, gone), ([[0, 2], [1, 2], [0, 2]], [1, 0]))


class Asking(Case):
    """The methods of a market."""

    def setUp(self):
        self.runs = [(0, 2), (1, 3), (0, 2), (2, 3)]
        self.markets = [kind(3, self.runs, gone=[2, 3]) for kind in (Join, Lap)]

    def test_there(self):
        for market in self.markets:
            self.same(market.there(), (0, 1))
        self.same(Join(2, [(0, 1)], gone=[0]).there(), ())

    def test_run_of(self):
        for market in self.markets:
            self.same([market.run_of(part) for part in range(4)], self.runs)
            for part in NO_INTEGERS + (-1, 4):
                self.fails(BadPart, {"part": part}, market.run_of, part)
        self.fails(BadPart, {"part": 0}, Join(1, []).run_of, 0)

    def test_parts_over(self):
        for market in self.markets:
            self.same(market.parts_over((0, 2)), (0,))
            self.same(market.parts_over([1, 3]), (1,))
            self.same(market.parts_over((2, 3)), ())
            self.same(market.parts_over((0, 1)), ())
            for run in NO_RUNS:
                self.fails(BadRun, {"place": -1}, market.parts_over, run)
        self.same(Lap(3, self.runs).parts_over((0, 2)), (0, 2))

    def test_length_and_loop(self):
        for market in self.markets:
            self.same(len(market), 4)
            self.same(list(market), self.runs)
            self.same([run for run in market], self.runs)

    def test_contains(self):
        for market in self.markets:
            self.same((0, 2) in market, True)
            self.same([1, 3] in market, True)
            self.same((2, 3) in market, False)
            self.same((0, 1) in market, False)
            for run in NO_RUNS:
                self.same(run in market, False)

    def test_equality(self):
        for kind in (Join, Lap):
            market = kind(3, self.runs, gone=[2, 3])
            self.same(market == kind(3, [list(run) for run in self.runs], gone=(3, 2)), True)
            self.same(market != kind(3, self.runs, gone=(2, 3)), False)
            self.same(market == kind(3, self.runs, gone=[2]), False)
            self.same(market == kind(4, self.runs, gone=[2, 3]), False)
            self.same(market == kind(3, self.runs[::-1], gone=[2, 3]), False)
            self.same(market == (market.size, market.runs, market.gone), False)
            self.same(market == None, False)  # noqa: E711
        self.same(self.markets[0] == self.markets[1], False)

    def test_check_join(self):
        self.assertIsNone(check_join(self.markets[0]))
        self.fails(NotJoin, {}, check_join, self.markets[1])

    def test_check_run(self):
        for market in self.markets:
            self.same(check_run(market, [0, 3]), (0, 3))
            self.same(check_run(market, (1, 2)), (1, 2))
            for run in NO_RUNS:
                self.fails(BadRun, {"place": -1}, check_run, market, run)

    def test_part_there(self):
        for market in self.markets:
            self.same(part_there(market, 1), 1)
            self.fails(IsGone, {"part": 2}, part_there, market, 2)
            for part in NO_INTEGERS + (-1, 4):
                self.fails(BadPart, {"part": part}, part_there, market, part)


class Changing(Case):
    """Promise 13 and the methods that give a market with other parts."""

    def setUp(self):
        self.runs = [(0, 2), (1, 3), (0, 2), (2, 3)]

    def test_lose(self):
        for kind in (Join, Lap):
            market = kind(3, self.runs, gone=[1])
            for parts in ([3, 1], (1, 3)):
                for lost in (market.lose(parts), market - parts):
                    self.assertIs(type(lost), kind)
                    self.same((lost.size, lost.runs, lost.gone), (3, tuple(self.runs), (1, 3)))
            self.same(market.lose([]) == market, True)
            self.same((market - [0]) - [2, 0] == market - [0, 2], True)
            self.same(market.gone, (1,))

    def test_less_and_lose(self):
        """P - parts answers as P.lose(parts) does, and leaves the market as it was."""
        rows = (
            ([0, 3], (0, 1, 3)), ((3, 0), (0, 1, 3)), ([2], (1, 2)), ([1], (1,)), ((2, 1), (1, 2)), ([], (1,)), ((), (1,)),
            ([3, 2, 1, 0], (0, 1, 2, 3)),
        )
        for kind in (Join, Lap):
            market = kind(3, self.runs, gone=[1])
            for parts, gone in rows:
                told = list(parts)
                for less in (market - parts, market.lose(parts)):
                    self.assertIs(type(less), kind)
                    self.assertIsNot(less, market)
                    self.same((less.size, less.runs, less.gone), (3, tuple(self.runs), gone))
                self.same(market - parts == market.lose(parts), True)
                self.same(list(parts), told)
                self.same((market.size, market.runs, market.gone), (3, tuple(self.runs), (1,)))
            self.same((kind(2, []) - []).gone, ())

    def test_less_and_lose_fail_alike(self):
        rows = [(parts, -1) for parts in NO_ROWS] + [([part], 0) for part in NO_INTEGERS + (-1, 4)]
        rows += [([1, 0, part, -1], 2) for part in NO_INTEGERS + (-1, 4)] + [((1, 1), 1), ([0, 3, 2, 3], 3)]
        for kind in (Join, Lap):
            market = kind(3, self.runs, gone=[1])
            for parts, place in rows:
                self.fails(BadSet, {"place": place}, lambda: market - parts)
                self.fails(BadSet, {"place": place}, market.lose, parts)
            self.same((market.size, market.runs, market.gone), (3, tuple(self.runs), (1,)))
            self.fails(BadSet, {"place": 0}, lambda: kind(2, []) - [0])

    def test_keep(self):
        for kind in (Join, Lap):
            market = kind(3, self.runs, gone=[1])
            kept = market.keep([3, 1])
            self.assertIs(type(kept), kind)
            self.same((kept.runs, kept.gone, kept.there()), (tuple(self.runs), (0, 1, 2), (3,)))
            self.same(market.keep(()).gone, (0, 1, 2, 3))
            self.same(market.keep([3, 2, 1, 0]) == market, True)

    def test_and_run(self):
        for kind in (Join, Lap):
            market = kind(3, self.runs, gone=[1])
            more = market.and_run([1, 2])
            self.assertIs(type(more), kind)
            self.same((more.size, more.runs, more.gone), (3, tuple(self.runs) + ((1, 2),), (1,)))
            self.same(market.many, 4)
            for run in NO_RUNS:
                self.fails(BadRun, {"place": -1}, market.and_run, run)

    def test_wrong_sets(self):
        for kind in (Join, Lap):
            market = kind(3, self.runs)
            for function in (market.lose, market.keep, market.__sub__):
                for parts in NO_ROWS:
                    self.fails(BadSet, {"place": -1}, function, parts)
                for part in NO_INTEGERS + (-1, 4):
                    self.fails(BadSet, {"place": 1}, function, [2, part, 2])
                self.fails(BadSet, {"place": 1}, function, [2, 2])

    def test_defined_in_the_classes(self):
        names = ("lose", "keep", "and_run", "__sub__", "__add__", "__or__", "__invert__", "__mul__")
        for kind in (Join, Lap):
            for name in names:
                self.assertIn(name, vars(kind))


if __name__ == "__main__":
    unittest.main()
