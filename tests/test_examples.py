import doctest
import unittest

BEHIND_15 = """
>>> from keptparts.markets import Join
>>> from keptparts.covers import cover, is_stock, begins
>>> market = Join(3, [(0, 2), (2, 3), (0, 1), (1, 3)])
>>> [cover(market, [1, 0]), is_stock(market, 1, [0, 3]), begins(market, 2)]
[(1, 1, 1), False, (2, 0, 0, -2)]

>>> from keptparts.markets import Join
>>> from keptparts.halving import halves
>>> whole = Join(2, [(0, 1), (1, 2)]) | Join(1, [[0, 1]])
>>> [whole.runs, sorted(halves(whole, [0, 1, 2]))]
[((0, 1), (1, 2), (0, 2)), [(0, 1), (2,)]]

>>> from keptparts.markets import Lap
>>> from keptparts.texts import market_text
>>> market_text(Lap(2, [(0, 2), (0, 1)], gone=[1]))
'lap 2\\n0 2\\n0 1 gone\\n'
"""

BEHIND_28 = """
>>> from keptparts.markets import Join
>>> from keptparts.rings import rings, growing_ways
>>> market = Join(3, [(0, 1), (1, 2), (2, 3), (0, 2), (1, 3), (0, 3)])
>>> [list(rings(market, 1, [5])), list(growing_ways(market, 1, [0, 1, 2]))]
[[((5,), (0, 1, 2)), ((5,), (0, 4)), ((5,), (2, 3))], [((), (5,)), ((1,), (3, 4))]]

>>> from keptparts.markets import Join, Lap
>>> from keptparts.cuts import strength, state_of, leaving
>>> runs = [(0, 2), (0, 1), (1, 3)]
>>> [strength(Join(3, runs)), strength(Lap(3, runs)), state_of(Join(3, runs), 1, 0),
...     state_of(Lap(3, runs), 1, 0), leaving(Join(3, runs), [0, 2])]
[1, 1, 'dead', 'loose', (1,)]
"""

BEHIND_45 = """
>>> from keptparts.markets import Join
>>> from keptparts.cheapest import cheapest, price_of
>>> from keptparts.tables import Table
>>> market = Join(3, [(0, 1), (0, 2), (1, 2), (1, 3), (2, 3)])
>>> world = (1, 10, 1, 10, 1)
>>> table = Table(market, 1, world)
>>> [cheapest(market, 1, world), price_of(market, 2, world), table.more((0, 3)), table.more((1, 2)),
...     table.less((0, 3)), table.lowest().levels, table.highest().levels]
[(0, 2, 4), 22, 19, 9, 3, (0, 1, 2, 3), (0, 9, 10, 19)]

>>> from keptparts.markets import Lap
>>> from keptparts.heights import Heights, fits, value_of
>>> from keptparts.strangers import entry, price_with
>>> market = Lap(2, [(0, 2), (0, 1), (1, 2)])
>>> heights = Heights([0, 1, 2])
>>> [fits(market, 1, (3, 1, 1), (1, 2), heights), value_of(market, 1, (3, 1, 1), heights),
...     entry(market, 1, (3, 1, 1), (0, 2)), price_with(market, 1, (3, 1, 1), (0, 2), 1)]
[True, 2, 2, 1]

>>> from keptparts.heights import Heights
>>> [(Heights([0, 3, 1]) | Heights([0, 2, 2])).levels, Heights([0, 3, 1]).worth((1, 2)),
...     Heights([0, 3, 1]).is_rising(), len(-Heights.level(2))]
[(0, 3, 2), -2, False, 3]
"""

BEHIND_60 = """
>>> from keptparts.markets import Join
>>> from keptparts.notes import Notes
>>> from keptparts.safety import is_safe, safe_stock
>>> from keptparts.regrets import regret, misfit
>>> from keptparts.heights import Heights
>>> market = Join(3, [(0, 1), (0, 2), (1, 2), (1, 3), (2, 3)])
>>> notes = Notes([(1, 2), (4, 6), (0, 1), (5, 5), (1, 2)])
>>> wider = Notes([(1, 2), (1, 6), (0, 1), (5, 5), (1, 2)])
>>> [is_safe(market, 1, notes, (0, 2, 4)), safe_stock(market, 1, notes), safe_stock(market, 1, wider),
...     regret(market, 1, wider, (0, 2, 4)), misfit(market, 1, wider, (0, 2, 4), Heights([0, 1, 1, 3]))]
[True, (0, 2, 4), None, 2, 2]

>>> from keptparts.notes import Notes, worlds, count_worlds, path
>>> notes = Notes([(0, 1), [3, 3], (5, 6)])
>>> [list(worlds(notes)), notes.high_on([2]), notes.unseen(), path(notes, (0, 3, 6), (1, 3, 5)),
...     notes.ask(2, 5).stretches]
[[(0, 3, 5), (0, 3, 6), (1, 3, 5), (1, 3, 6)], (0, 3, 6), (0, 2), [(0, 3, 6), (1, 3, 6), (1, 3, 5)], ((0, 1), (3, 3), (5, 5))]

>>> from keptparts.markets import Lap
>>> from keptparts.notes import Notes
>>> from keptparts.possible import possible_stocks
>>> from keptparts.regrets import price_ends, world_at
>>> market = Lap(1, [(0, 1), (0, 1)])
>>> notes = Notes([(2, 3), (3, 9)])
>>> [possible_stocks(market, 1, notes), price_ends(market, 1, notes), world_at(market, 1, notes, 4)]
[[(0,), (1,)], (2, 3), None]
"""

BEHIND_75 = """
>>> from keptparts.markets import Join
>>> from keptparts.pairs import sort_of, with_parts, against_parts
>>> market = Join(3, [(0, 1), (1, 2), (2, 3), (0, 2), (1, 3), (0, 3)])
>>> [sort_of(market, 1, 0, 2), sort_of(market, 1, 0, 1), with_parts(market, 1, 5), against_parts(market, 1, 5)]
['mixed', 'with', (), (0, 1, 2, 3, 4)]

>>> from keptparts.markets import Join
>>> from keptparts.critical import critical_price, critical_ends
>>> from keptparts.notes import Notes
>>> market = Join(2, [(0, 2), (0, 1), (1, 2)])
>>> [critical_price(market, 1, [7, 3, 9], 1), critical_ends(market, 1, Notes([(4, 6), (0, 9), (5, 7)]), 1)]
[-2, (-3, 1)]
"""

BEHIND_90 = """
>>> from keptparts.markets import Join
>>> from keptparts.further import losses_of_two
>>> chain = Join(2, [(0, 1), (1, 2), (0, 2)])
>>> equal = Join(1, [(0, 1), (0, 1), (0, 1)])
>>> [losses_of_two(chain, 1, (1, 1, 4), 0, 1), losses_of_two(equal, 1, (0, 0, 1), 0, 1)]
[(2, 2, 2), (0, 0, 1)]

>>> from keptparts.markets import Join
>>> from keptparts.mending import mend_price, mend_rings
>>> market = Join(3, [(0, 1), (0, 2), (1, 2), (1, 3), (2, 3)])
>>> world = (1, 10, 1, 10, 1)
>>> [mend_price(market, 1, world, (0, 2, 4), (2,)), mend_rings(market, 1, world, (0, 3), (3,))]
[10, [((3,), (2, 4))]]

>>> from keptparts.markets import Join
>>> from keptparts.waiting import Wait, ahead, bound
>>> market = Join(3, [(0, 1), (0, 2), (1, 2), (1, 3), (2, 3)])
>>> world = (1, 10, 1, 10, 1)
>>> [Wait(market, world, 1)((0,)), ahead(market, world, 1, 1), bound(market, world, 1, 1)]
[11, 22, 19]
"""

BEHIND_105 = """
>>> from keptparts.markets import Join
>>> from keptparts.growing import grows, grows_at, going_back
>>> market = Join(3, [(0, 1), (0, 2), (1, 2), (1, 3), (2, 3)])
>>> [grows_at(market, 0), grows(market), going_back(market, 1)]
[True, False, ((0, 2, 4), (2,), (1, 3))]

>>> from keptparts.markets import Join
>>> from keptparts.leaving import leaving_world, left_behind
>>> from keptparts.budgets import cost_steps
>>> market = Join(3, [(0, 1), (0, 2), (1, 2), (1, 3), (2, 3)])
>>> [left_behind(market, 1), leaving_world(market, 1, 2), cost_steps(market, (0, 2, 1, 2, 0))]
[(2,), (0, 2, 1, 2, 0), [1, 3]]

>>> from keptparts.markets import Join
>>> from keptparts.buying import Buying
>>> from keptparts.budgets import best_sizes, greatest_size
>>> market = Join(2, [(0, 1), (0, 1), (1, 2), (1, 2), (0, 2)])
>>> world = (1, 4, 2, 2, 5)
>>> run = Buying(market, world)
>>> [len(run.buy_many(5)), run.spent, run.stopped, greatest_size(market, world, 8), best_sizes(market, world, 5)]
[3, 14, True, 2, [1, 2]]
"""

BEHIND_119 = """
>>> from keptparts.folds import Folding, cost_row
>>> from keptparts.markets import Join
>>> folding = Folding(3, [(0, 1), (1, 3), (0, 2), (2, 3)])
>>> [folding.folded, folding.rest, cost_row(Join(3, [(0, 1), (1, 3), (0, 2), (2, 3), (1, 3)]), [4, 9, 6, 1, 2])]
[(1, 2), ((0, 3),), [6, 7]]

>>> from keptparts.bridges import bridge, doubled
>>> runs = [(0, 1), (0, 2), (1, 2), (1, 3), (2, 3)]
>>> [bridge(3, runs), bridge(3, [(1, 3), (0, 1), (0, 2)]), doubled(3, [(1, 3), (0, 1), (0, 2)]).runs]
[((0, 1, 2, 3), (((0, 1),), ((0, 2),), ((1, 2),), ((1, 3),), ((2, 3),))), None, ((0, 1), (0, 1), (1, 3), (1, 3))]
"""

BEHIND_133 = """
>>> from keptparts.markets import Join
>>> from keptparts.notes import Notes
>>> from keptparts.papers import Told
>>> from keptparts.forced import forced_parts, lacking_ring
>>> from keptparts.changes import room
>>> market = Join(2, [(0, 1), (1, 2), (0, 2)])
>>> notes = Notes([(0, 2), (0, 2), (1, 1)])
>>> told = Told(market, 1, notes, (0, 0, 1), (0, 1))
>>> [told.paper, len(told), told.shows([0]), forced_parts(market, 1, notes, (0, 0, 1), (0, 1)),
...     lacking_ring(market, 1, notes, (0, 0, 1), (0, 1), [0]), room(market, 1, (0, 0, 1), (0, 1))]
[(0, 1), 2, False, (0, 1), ((0, 1), (2,)), 1]

>>> from keptparts.markets import Join
>>> from keptparts.notes import Notes
>>> from keptparts.papers import is_paper
>>> from keptparts.forced import forced_parts
>>> from keptparts.changes import room, side_room, near
>>> market = Join(1, [(0, 1), (0, 1)])
>>> notes = Notes([(2, 6), (3, 9)])
>>> [forced_parts(market, 1, notes, (2, 9), [0]), is_paper(market, 1, notes, (2, 9), [0], []),
...     is_paper(market, 1, notes, (2, 9), [0], [1]), room(market, 1, (2, 9), [0]),
...     side_room(market, 1, (2, 9), [0]), near((2, 9), 3).stretches]
[(), False, True, 7, 3, ((0, 5), (6, 12))]

>>> from keptparts.markets import Join
>>> from keptparts.notes import Notes
>>> from keptparts.blows import fewest_shown, free_stock, shows_price
>>> market = Join(3, [(0, 1), (0, 2), (1, 2), (1, 3), (2, 3)])
>>> notes = Notes.unknown(5, 9)
>>> [fewest_shown(market, 1), free_stock(market, 1, [0]), shows_price(market, 1, notes, (1, 1, 1, 1, 1), [0, 1], 1),
...     shows_price(market, 1, notes, (1, 1, 1, 1, 1), [0], 1)]
[2, (1, 4), True, False]
"""

BEHIND_148 = """
>>> from keptparts.markets import Join
>>> from keptparts.notes import Notes
>>> from keptparts.desks import Desk
>>> from keptparts.listings import listing
>>> desk = Desk(Join(1, [(0, 1), (0, 1), (0, 1)]), Notes([(1, 4), (2, 3), (5, 6)]), 1)
>>> first = [desk.verdict(0), desk.verdict(1), desk.verdict(2), desk.sure_stock(), desk.pay_ends()]
>>> news = desk.ask(0, 2)
>>> [first, news, listing(desk)]
[['unsettled', 'unsettled', 'out', None, (1, 3)], (), 'join of 1, wanted 1, spent 0, deeds 1\\n0 0-1 2 unsettled\\n1 0-1 2..3 unsettled\\n2 0-1 5..6 out\\nto pay 2\\nsure 0\\n']

>>> from keptparts.markets import Join
>>> from keptparts.notes import Notes
>>> from keptparts.desks import Desk
>>> desk = Desk(Join(2, [(0, 1), (1, 2), (0, 2)]), Notes([(0, 2), (0, 2), (1, 1)]), 1)
>>> asked = desk.finish([0, 0, 1])
>>> [asked, len(desk), desk.sure_stock(), desk.buy(0, 0), desk.spent, desk.verdict(0), desk.lose(1), desk.short,
...     desk.verdict(2), desk.back(), len(desk)]
[(0, 1), 2, (0, 1), (0,), 0, 'kept', (1, 2), False, 'in', (1, 2), 3]

>>> from keptparts.markets import Lap
>>> from keptparts.notes import Notes
>>> from keptparts.desks import Desk
>>> from keptparts.trials import tried, tried_offer
>>> desk = Desk(Lap(2, [(0, 1), (1, 2)]), Notes([(3, 3), (4, 4)]), 1)
>>> [tried(desk, 0), tried_offer(desk, (0, 2), 5, 6), tried_offer(desk, (0, 2), 5, 8), len(desk), desk.losses_left()]
[(0, 1), 'in', 'unsettled', 0, 0]
"""


class Examples(unittest.TestCase):
    """The examples of the document, as they stand there."""

    def run_examples(self, text, many):
        test = doctest.DocTestParser().get_doctest(text, {}, "examples", None, 0)
        runner = doctest.DocTestRunner()
        failures = []
        runner.run(test, out=failures.append)
        self.assertEqual(failures, [])
        self.assertEqual(sum(bool(example.want) for example in test.examples), many)

    def test_behind_15(self):
        self.run_examples(BEHIND_15, 3)

    def test_behind_28(self):
        self.run_examples(BEHIND_28, 2)

    def test_behind_45(self):
        self.run_examples(BEHIND_45, 3)

    def test_behind_60(self):
        self.run_examples(BEHIND_60, 3)

    def test_behind_75(self):
        self.run_examples(BEHIND_75, 2)

    def test_behind_90(self):
        self.run_examples(BEHIND_90, 3)

    def test_behind_105(self):
        self.run_examples(BEHIND_105, 3)

    def test_behind_119(self):
        self.run_examples(BEHIND_119, 2)

    def test_behind_133(self):
        self.run_examples(BEHIND_133, 3)

    def test_behind_148(self):
        self.run_examples(BEHIND_148, 3)


if __name__ == "__main__":
    unittest.main()
