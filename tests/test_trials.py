import random
import unittest

from keptparts.desks import Desk
from keptparts.errors import (
    BadPart, BadRun, BadStretch, Closed, IsGone, IsLost, NothingBack, PartsError, TooMany,
)
from keptparts.listings import listing
from keptparts.markets import Join, Lap
from keptparts.notes import Notes
from keptparts.trials import Trial, tried, tried_offer
from support import NO_INTEGERS, Case, all_runs, random_market, random_notes


def small_desk(kind=Join):
    return Desk(kind(1, [(0, 1)] * 4, gone=[3]), Notes([(1, 4), (2, 3), (5, 6), (0, 0)]), 1)


def state(desk):
    """All that a desk keeps and answers."""
    return repr((desk.market.runs, desk.market.gone, desk.notes.stretches, desk.number, desk.bought, desk.loss,
                 desk.spent, len(desk), listing(desk), desk.left.gone, desk.now.stretches, desk.next_ends(),
                 list(desk), desk.unsettled(), desk.short, desk.wanted, desk.losses_left()))


def undone(desk):
    """What back tells, again and again; afterwards the desk is as it was made."""
    told = []
    while len(desk):
        told.append((desk.back(), state(desk)))
    return told


class Trials(Case):
    """Promise 148: trials."""

    def deeds(self, desk):
        desk.ask(0, 2)
        desk.lose(1)
        desk.buy(2, 5)
        desk.offer((0, 1), 0, 3)
        desk.want(2)
        desk.back()
        desk.back()

    def test_end_of_a_block(self):
        for kind in (Join, Lap):
            for deeds in (0, 1, 2):
                desk = small_desk(kind)
                for part in range(deeds):
                    desk.lose(part)
                before, market, notes = state(desk), desk.market, desk.notes
                trial = Trial(desk)
                self.same((trial.ended, trial.desk is desk), (False, True))
                with trial as told:
                    self.assertTrue(told is trial)
                    self.same(trial.ended, False)
                    if deeds < 2:
                        self.deeds(desk)
                    while len(desk) > 1:
                        desk.back()
                    desk.ask(2, 6)
                    self.assertNotEqual(state(desk), before)
                self.same((trial.ended, state(desk)), (True, before))
                self.assertTrue(desk.market is market and desk.notes is notes)
                twin = small_desk(kind)
                for part in range(deeds):
                    twin.lose(part)
                self.same(undone(desk), undone(twin))
                self.fails(NothingBack, {}, desk.back)

    def test_errors_in_a_block(self):
        desk = small_desk()
        desk.lose(2)
        before = state(desk)
        trial = Trial(desk)
        with self.assertRaises(IsLost) as caught:
            with trial:
                desk.ask(0, 3)
                desk.want(0)
                desk.lose(2)
        self.assertEqual(caught.exception.part, 2)
        self.same((trial.ended, state(desk)), (True, before))
        with self.assertRaises(ZeroDivisionError):
            with Trial(desk):
                desk.back()
                1 // 0
        self.same((state(desk), desk.back(), len(desk)), (before, (2,), 0))

    def test_entered_twice(self):
        desk = small_desk()
        trial = Trial(desk)
        with trial:
            desk.lose(0)
            inner = state(desk)
            with self.assertRaises(Closed):
                with trial:
                    desk.lose(1)
            self.same((state(desk), trial.ended), (inner, False))
        before = state(desk)
        with self.assertRaises(Closed):
            with trial:
                desk.lose(1)
        self.same((state(desk), trial.ended, len(desk)), (before, True, 0))
        # A new trial may be made.
        with Trial(desk):
            desk.lose(1)
        self.same(state(desk), before)

    def test_when_the_block_begins(self):
        """The trial counts from the begin of its block, not from when it was made."""
        desk = small_desk()
        trial = Trial(desk)
        desk.lose(0)
        before = state(desk)
        with trial:
            desk.find(0)
        self.same((state(desk), desk.loss, len(desk)), (before, (0,), 1))

    def test_trials_within_trials(self):
        desk = small_desk()
        first = state(desk)
        with Trial(desk):
            desk.lose(0)
            second = state(desk)
            with Trial(desk):
                desk.buy(1, 2)
            self.same(state(desk), second)
            desk.lose(1)
        self.same(state(desk), first)

    def test_drawn_deeds(self):
        for seed in range(40):
            chance = random.Random(seed)
            market = random_market(seed, None, 3, 5)
            desk = Desk(market, random_notes(seed, market), 1)
            for _ in range(3):
                self.draw(chance, desk)
            before = state(desk)
            with Trial(desk):
                for _ in range(5):
                    self.draw(chance, desk)
                    if chance.random() < 0.3 and len(desk):
                        desk.back()
            self.same(state(desk), before)
            for part in desk.left.there():
                wanted = tried(desk, part)
                self.same(state(desk), before)
                self.same(desk.lose(part), wanted)
                desk.back()
            for run in all_runs(market.size):
                low = chance.randint(0, 3)
                verdict = tried_offer(desk, list(run), low, low + 1)
                self.same(state(desk), before)
                desk.offer(run, low, low + 1)
                self.same(desk.verdict(desk.market.many - 1), verdict)
                desk.back()

    def draw(self, chance, desk):
        part = chance.randrange(desk.market.many + 1)
        deeds = [lambda: desk.lose(part), lambda: desk.find(part), lambda: desk.ask(part, desk.notes.lows[part]),
                 lambda: desk.buy(part, desk.notes.highs[part]), lambda: desk.want(chance.randint(0, 2)),
                 lambda: desk.offer((0, desk.market.size), 1, 2)]
        try:
            chance.choice(deeds)()
        except (PartsError, IndexError):
            pass


class Tried(Case):
    """Promises 2, 138 and 148: the functions that try a deed."""

    def test_in_words(self):
        desk = Desk(Lap(2, [(0, 1), (1, 2)]), Notes([(3, 3), (4, 4)]), 1)
        self.same([tried(desk, 0), tried_offer(desk, (0, 2), 5, 6), tried_offer(desk, (0, 2), 5, 8)],
                  [(0, 1), "in", "unsettled"])
        self.same([tried_offer(desk, [0, 2], 7, 8), tried_offer(desk, (0, 2), 8, 9), len(desk), desk.market.many],
                  ["unsettled", "out", 0, 2])
        self.same((desk.lose(1), tried_offer(desk, (0, 1), 0, 0), tried_offer(desk, (1, 2), 9, 9)),
                  ((0, 1), "short", "in"))

    def test_wrong(self):
        desk = small_desk()
        desk.lose(2)
        before = state(desk)
        for value in NO_INTEGERS + (-1, 4):
            self.fails(BadPart, {"part": value}, tried, desk, value)
        self.fails(IsGone, {"part": 3}, tried, desk, 3)
        self.fails(IsLost, {"part": 2}, tried, desk, 2)
        for run in ((1, 0), (0, 2), None, (0, True)):
            self.fails(BadRun, {"place": -1}, tried_offer, desk, run, 3, 2)
        for stretch in ((3, 2), (-1, 2), (None, 2), (0, True)):
            self.fails(BadStretch, {"part": 4}, tried_offer, desk, (0, 1), *stretch)
        self.same(state(desk), before)

    def test_many_parts(self):
        desk = Desk(Join(1, [(0, 1)] * 10), Notes([(1, 1)] * 10), 1)
        before = state(desk)
        self.fails(TooMany, {"number": 11}, tried_offer, desk, (0, 1), 0, 5)
        self.fails(BadStretch, {"part": 10}, tried_offer, desk, (0, 1), 6, 5)
        self.same(state(desk), before)
        larger = Desk(Join(1, [(0, 1)] * 11), Notes([(1, 1)] * 11), 1)
        self.same((tried(larger, 0), len(larger), larger.loss), ((), 0, ()))
        self.fails(TooMany, {"number": 12}, tried_offer, larger, (0, 1), 0, 5)
        self.same((len(larger), larger.market.many), (0, 11))


if __name__ == "__main__":
    unittest.main()
