import itertools
import random
import unittest

from keptparts.cuts import strength
from keptparts.desks import Desk
from keptparts.errors import (
    BadNumber, BadPart, BadRun, BadSet, BadStretch, BadWorld, FixedWanted, IsBought, IsGone, IsLost, NoStock,
    NotAgreeing, NotAStock, NothingBack, NotLost, OtherSize, TooMany,
)
from keptparts.growing import grows_at
from keptparts.listings import listing
from keptparts.markets import Join, Lap
from keptparts.notes import Notes
from keptparts.pairs import against_parts, with_parts
from keptparts.papers import Told, is_paper
from keptparts.safety import is_safe
from keptparts.strangers import entry
from support import (
    NO_INTEGERS, NO_ROWS, Case, Words, agreeing, all_runs, all_sets, best_price, great_notes, great_ways, is_a_stock,
    price, random_market, random_notes, random_world, stocks,
)

WRONG_RUNS = ((0, 5), (-1, 1), (1, 1), (2, 1), (0,), (0, 1, 2), (0, True), None, 5, "01", True)
WRONG_STRETCHES = ((3, 2), (-1, 2), (True, 2), (0, None), ("0", 1), (0, 1.0))


def random_desk(seed, kind=None, most_parts=5, most=24, top=4):
    """A random desk, now and then with bought parts."""
    chance = random.Random(seed)
    market = random_market(seed, kind, 3, most_parts)
    bought = [part for part in market.there() if chance.random() < 0.1]
    return Desk(market, random_notes(seed, market, most, top), chance.choice((0, 1, 1, 1, 2)), bought=bought)


def random_deed(chance, desk):
    """The name and the arguments of a deed; now and then one that raises an error."""
    many, notes = desk.market.many, desk.notes
    name = chance.choice(("ask", "narrow", "lose", "lose", "find", "buy", "want", "offer"))
    part = chance.randrange(many) if many and chance.random() < 0.95 else many
    low, high = notes.stretches[part] if part < many else (0, 1)
    if name in ("ask", "buy"):
        return name, (part, chance.randint(low, high) if chance.random() < 0.9 else high + 1)
    if name == "narrow":
        ends = sorted((chance.randint(low, high), chance.randint(low, high)))
        return name, (part, *ends) if chance.random() < 0.9 else (part, low, high + 1)
    if name in ("lose", "find"):
        return name, ((chance.choice(desk.loss) if name == "find" and desk.loss else part),)
    if name == "want":
        return name, (chance.choice((0, 1, 1, 2)),)
    low = chance.randint(0, 4)
    if many > 6:
        return "want", (1,)
    return name, (chance.choice(all_runs(desk.market.size)), low, low + chance.choice((0, 1)))


def error_of(desk, name, arguments):
    """The error that the deed raises, with its fields, by the words of the document; None if it raises none."""
    if name in ("want", "offer"):
        return None
    part, many = arguments[0], desk.market.many
    if part >= many:
        return BadPart, {"part": part}
    if name in ("lose", "buy") and part in desk.market.gone:
        return IsGone, {"part": part}
    if name in ("lose", "buy") and part in desk.loss:
        return IsLost, {"part": part}
    if name == "find":
        return None if part in desk.loss else (NotLost, {"part": part})
    if name == "lose":
        return None
    if part in desk.bought:
        return IsBought, {"part": part}
    low, high = desk.notes.stretches[part]
    if name == "narrow":
        return None if low <= arguments[1] and arguments[2] <= high else (BadStretch, {"part": part})
    return None if low <= arguments[1] <= high else (NotAgreeing, {"part": part})


def contents(desk):
    """What a desk keeps."""
    return (desk.market.KIND, desk.market.size, desk.market.runs, desk.market.gone, desk.notes.stretches, desk.number,
            desk.bought, desk.loss, desk.spent, len(desk))


def answers(desk):
    """All answers of a desk but its length, spent and the first line of its listing."""
    many = desk.market.many
    try:
        told = [desk.verdict(part) for part in range(many)], desk.unsettled(), [part in desk for part in range(many)]
        lines = listing(desk).split("\n")[1:]
    except TooMany as error:
        told, lines = error.number, None
    return repr((told, lines, list(desk), desk.short, desk.sure_stock(), desk.pay_ends(), desk.next_ends(),
                 desk.losses_left(), desk.left.gone, desk.now.stretches, desk.wanted))


class Walk(Case):
    """Deeds of all kinds on random desks, each one looked at from all sides."""

    def check_answers(self, desk, words):
        """Promises 136 and 137: the answers of a desk."""
        many = desk.market.many
        verdicts = words.verdicts
        self.same([desk.verdict(part) for part in range(many)], verdicts)
        unsettled = tuple(part for part, verdict in enumerate(verdicts) if verdict == "unsettled")
        self.same((desk.unsettled(), list(desk)), (unsettled, list(unsettled)))
        self.same([part in desk for part in range(many)],
                  [verdict not in ("gone", "lost", "out") for verdict in verdicts])
        self.same((desk.short, desk.wanted), (not words.found, desk.number))
        self.same(desk.left == words.left, True)
        self.same(desk.now.stretches, tuple(words.stretches))
        sure = desk.sure_stock()
        self.same(sure is not None, bool(words.safe))
        if words.safe:
            self.assertIn(sure, words.safe)
        self.same((desk.pay_ends(), desk.next_ends()), (words.pay_ends(), words.next_ends()))
        for stock in words.found[:4]:
            self.same(desk.regret_of(list(stock)[::-1]), words.regret(stock))
        self.same(desk.losses_left(), strength(words.left) - 1)

    def check_fresh(self, desk):
        """Promise 139: a desk that is made anew with equal contents answers the same."""
        fresh = Desk(type(desk.market)(desk.market.size, list(desk.market.runs), gone=desk.market.gone),
                     Notes(list(desk.notes.stretches)), desk.number, bought=list(desk.bought))
        for part in desk.loss[::-1]:
            fresh.lose(part)
        self.same(answers(fresh), answers(desk))

    def do(self, desk, name, arguments):
        """One deed; the news, or None if it is refused."""
        before, words = contents(desk), Words(desk)
        wrong = error_of(desk, name, arguments)
        state = answers(desk)
        if wrong is not None:
            self.fails(wrong[0], wrong[1], getattr(desk, name), *arguments)
            self.same((contents(desk), answers(desk)), (before, state))
            return None
        market, notes = desk.market, desk.notes
        texts = repr((market.runs, market.gone, notes.stretches))
        news = getattr(desk, name)(*arguments)
        self.same(repr((market.runs, market.gone, notes.stretches)), texts)
        after = Words(desk)
        told = [part for part, pair in enumerate(zip(words.verdicts, after.verdicts)) if pair[0] != pair[1]]
        self.same(news, tuple(told))
        self.same(len(desk), before[-1] + 1)
        self.check_contents(before, desk, name, arguments)
        return news

    def check_contents(self, before, desk, name, arguments):
        """What a deed changes, and what it leaves."""
        kind, size, runs, gone, stretches, number, bought, loss, spent, _ = before
        stretches = list(stretches)
        if name in ("ask", "buy"):
            stretches[arguments[0]] = (arguments[1],) * 2
        if name == "narrow":
            stretches[arguments[0]] = arguments[1:]
        if name == "offer":
            runs, stretches = runs + (tuple(arguments[0]),), stretches + [arguments[1:]]
        if name == "want":
            number = arguments[0]
        if name == "lose":
            loss = tuple(sorted(loss + arguments))
        if name == "find":
            loss = tuple(part for part in loss if part != arguments[0])
        if name == "buy":
            bought, spent = tuple(sorted(bought + arguments[:1])), spent + arguments[1]
        self.same(contents(desk)[:-1], (kind, size, runs, gone, tuple(stretches), number, bought, loss, spent))


class Deeds(Walk):
    """Promises 136 to 139: deeds, news and answers."""

    def test_drawn_deeds(self):
        told = {}
        for seed in range(60):
            chance = random.Random(seed)
            desk = random_desk(seed)
            self.check_answers(desk, Words(desk))
            before = [(contents(desk), answers(desk))]
            for _ in range(9):
                name, arguments = random_deed(chance, desk)
                news = self.do(desk, name, arguments)
                told[name, news is None] = told.get((name, news is None), 0) + 1
                if news is None:
                    continue
                self.check_answers(desk, Words(desk))
                self.check_fresh(desk)
                before.append((contents(desk), answers(desk)))
                if chance.random() < 0.2:
                    self.take_back(desk, before)
            while len(before) > 1:
                self.take_back(desk, before)
            self.same(len(desk), 0)
            self.fails(NothingBack, {}, desk.back)
            self.same((contents(desk), answers(desk)), before[0])
        names = ("ask", "narrow", "lose", "find", "buy", "want", "offer")
        self.assertTrue(all(told[name, False] > 10 for name in names), told)
        self.assertTrue(all(told[name, True] > 4 for name in names[:5]), told)

    def take_back(self, desk, before):
        """back: everything is as before the deed, and the news are the parts whose verdict changes by it."""
        verdicts = Words(desk).verdicts
        before.pop()
        news = desk.back()
        self.same((contents(desk), answers(desk)), before[-1])
        pairs = zip(verdicts, Words(desk).verdicts)
        self.same(news, tuple(part for part, pair in enumerate(pairs) if pair[0] != pair[1]))

    def test_back_over_an_offer(self):
        """The parts that the market has before and after: not the offered one."""
        desk = Desk(Join(1, [(0, 1), (0, 1)]), Notes([(2, 3), (5, 6)]), 1)
        self.same([desk.verdict(part) for part in (0, 1)], ["in", "out"])
        self.same(desk.offer([0, 1], 0, 1), (0,))
        self.same([desk.verdict(part) for part in (0, 1, 2)], ["out", "out", "in"])
        self.same((desk.back(), desk.market.many, desk.notes.stretches), ((0,), 2, ((2, 3), (5, 6))))

    def test_lose_and_find(self):
        for seed in range(60):
            desk = random_desk(seed)
            state, kept = answers(desk), contents(desk)
            for part in desk.left.there():
                news = desk.lose(part)
                self.same(part in desk.loss and part in news, True)
                self.same(part in desk.find(part), True)
                self.same(answers(desk), state)
                self.same(contents(desk)[:-1], kept[:-1])
            self.same(len(desk), 2 * len(desk.left.there()))

    def test_bought_and_lost(self):
        """A bought part that is lost is not kept; if it is found again, it is kept again."""
        desk = Desk(Join(1, [(0, 1)] * 3), Notes([(4, 9), (2, 3), (5, 5)]), 1)
        self.same((desk.buy(0, 6), desk.spent, desk.bought, desk.verdict(0)), ((0, 1), 6, (0,), "kept"))
        self.same((desk.now.stretches, desk.notes.stretches), (((0, 0), (2, 3), (5, 5)), ((6, 6), (2, 3), (5, 5))))
        self.same((desk.lose(0), desk.bought, desk.verdict(0)), ((0, 1), (0,), "lost"))
        self.same((desk.now.stretches, desk.pay_ends()), (((6, 6), (2, 3), (5, 5)), (2, 3)))
        for name, arguments in (("ask", (0, 6)), ("narrow", (0, 6, 6)), ("buy", (0, 6))):
            self.fails(IsLost if name == "buy" else IsBought, {"part": 0}, getattr(desk, name), *arguments)
        self.same((desk.find(0), desk.verdict(0), desk.now.stretches[0], desk.pay_ends()),
                  ((0, 1), "kept", (0, 0), (0, 0)))
        self.fails(IsBought, {"part": 0}, desk.buy, 0, 6)
        self.same((desk.back(), desk.back(), desk.back(), desk.spent, desk.bought), ((0, 1), (0, 1), (0, 1), 0, ()))

    def test_bought_at_first(self):
        market, notes = Join(1, [(0, 1)] * 3, gone=[2]), Notes([(1, 4), (2, 3), (0, 9)])
        bought = [1]
        desk = Desk(market, notes, 1, bought=bought)
        bought.append(0)
        self.same((desk.bought, desk.loss, desk.spent, len(desk), desk.number), ((1,), (), 0, 0, 1))
        self.assertTrue(desk.market is market and desk.notes is notes)
        self.same([desk.verdict(part) for part in range(3)], ["out", "kept", "gone"])
        self.same((desk.now.stretches, desk.notes.stretches), (((1, 4), (0, 0), (0, 9)), ((1, 4), (2, 3), (0, 9))))
        self.same(contents(Desk(market, notes, 1, bought=(1,))), contents(desk))

    def test_gone_and_lost_parts_may_be_asked(self):
        desk = Desk(Join(1, [(0, 1)] * 3, gone=[2]), Notes([(1, 4), (2, 3), (0, 9)]), 1)
        desk.lose(0)
        self.same((desk.ask(2, 5), desk.narrow(0, 2, 3), desk.ask(0, 2)), ((), (), ()))
        self.same((desk.notes.stretches, desk.now.stretches), (((2, 2), (2, 3), (5, 5)),) * 2)

    def test_deeds_that_change_nothing(self):
        desk = Desk(Join(1, [(0, 1), (0, 1)]), Notes([(1, 1), (2, 3)]), 1)
        self.same((desk.want(1), desk.ask(0, 1), desk.narrow(1, 2, 3), len(desk)), ((), (), (), 3))
        self.same((desk.back(), desk.back(), desk.back(), len(desk)), ((), (), (), 0))

    def test_short_desks(self):
        for kind in (Join, Lap):
            desk = Desk(kind(2, [(0, 1), (1, 2), (0, 1)], gone=[2]), Notes([(0, 5), (1, 2), (3, 3)]), 1, bought=[0])
            self.same((desk.short, [desk.verdict(part) for part in range(3)]), (False, ["kept", "in", "gone"]))
            self.same(desk.want(2), (1,))
            self.same((desk.short, [desk.verdict(part) for part in range(3)]), (True, ["kept", "short", "gone"]))
            self.same((desk.sure_stock(), desk.pay_ends(), desk.next_ends(), desk.unsettled(), list(desk)),
                      (None, (None, None), None, (), []))
            self.same([part in desk for part in range(4)], [True, True, False, False])
            self.fails(NotAStock, {"place": 0}, desk.regret_of, (0, 1))
            self.fails(NoStock, {}, desk.finish, (0, 1, 3))
            self.same((desk.losses_left(), desk.lose(1), desk.losses_left()), (0, (1,), -1))

    def test_size_of_nothing(self):
        join = Desk(Join(2, [(0, 2), (0, 1)]), Notes([(0, 1), (0, 2)]), 0)
        self.same((join.sure_stock(), join.pay_ends(), join.next_ends()), ((), (0, 0), (0, 1)))
        self.same([join.verdict(0), join.verdict(1), join.regret_of([])], ["out", "out", 0])
        lap = Desk(Lap(2, [(0, 2), (0, 1)]), Notes([(0, 1), (1, 2)]), 0)
        self.same([lap.verdict(0), lap.verdict(1), lap.pay_ends(), lap.next_ends()],
                  ["unsettled", "out", (0, 0), (0, 1)])
        for kind in (Join, Lap):
            empty = Desk(kind(2, []), Notes([]), 0)
            self.same((empty.short, empty.sure_stock(), empty.pay_ends(), empty.next_ends(), empty.losses_left()),
                      (False, (), (0, 0), (None, None), -1))
            self.same((empty.unsettled(), list(empty), len(empty), 0 in empty, empty.finish(())),
                      ((), [], 0, False, ()))
            self.same((empty.want(1), empty.short, empty.pay_ends()), ((), True, (None, None)))
            self.same((empty.offer((0, 2), 3, 4), empty.short, empty.verdict(0)), ((), False, "in"))

    def test_iterating_and_membership(self):
        desk = Desk(Join(1, [(0, 1)] * 4), Notes([(1, 4), (2, 3), (9, 9), (3, 3)]), 1)
        desk.lose(3)
        self.same((list(desk), desk.unsettled()), ([0, 1], (0, 1)))
        self.same([part in desk for part in (0, 1, 2, 3)], [True, True, False, False])
        for value in NO_INTEGERS + (-1, 4, (0, 1), [0]):
            self.same(value in desk, False)
        told = list(desk)
        told.clear()
        self.same(list(desk), [0, 1])

    def test_wanted_is_fixed(self):
        desk = Desk(Join(1, [(0, 1)]), Notes([(1, 4)]), 1)
        with self.assertRaises(FixedWanted):
            desk.wanted = 2
        with self.assertRaises(FixedWanted):
            desk.wanted = 1
        self.same((desk.wanted, desk.number, len(desk)), (1, 1, 0))

    def test_long_histories(self):
        """Two hundred deeds, in a market of more than ten parts and in a small one."""
        for market in (great_ways(1, 6), great_ways(2, 6), random_market(3, Join), random_market(4, Lap)):
            notes = great_notes(1, market)
            desk = Desk(market, notes, 1)
            chance = random.Random(1)
            first, states = (contents(desk), desk.pay_ends()), []
            while len(desk) < 200:
                name, arguments = random_deed(chance, desk)
                if market.many < 10 and name == "offer" or error_of(desk, name, arguments) is not None:
                    continue
                states.append(contents(desk))
                getattr(desk, name)(*arguments)
            for state in states[:150:-1]:
                desk.back()
                self.same(contents(desk), state)
            while len(desk):
                desk.back()
            self.same((contents(desk), desk.pay_ends()), first)


class ManyParts(Case):
    """Promises 137 and 138: more than ten parts that are left."""

    def test_edges(self):
        for kind in (Join, Lap):
            desk = Desk(kind(1, [(0, 1)] * 12, gone=[11]), Notes([(0, 9)] * 12), 1, bought=[4])
            for ask in (desk.unsettled, lambda: desk.verdict(0), lambda: desk.verdict(11), lambda: 3 in desk,
                        lambda: desk.finish([0] * 12)):
                self.fails(TooMany, {"number": 11}, ask)
            self.fails(BadPart, {"part": 12}, desk.verdict, 12)
            self.same((12 in desk, list(desk), desk.short), (False, [], False))
            # No news, neither of the deed before nor of the one behind the bound.
            self.same((desk.ask(0, 5), desk.lose(3), desk.verdict(3), desk.verdict(4)), ((), (), "lost", "kept"))
            self.same(desk.lose(2), (2,))
            self.same((desk.find(2), desk.find(3), list(desk)), ((2,), (), []))
            self.same((desk.back(), desk.verdict(4), len(desk)), ((), "kept", 4))
            self.same((desk.offer((0, 1), 0, 0), list(desk)), ((), []))
            self.fails(TooMany, {"number": 11}, desk.verdict, 3)
            self.same((desk.back(), desk.verdict(4)), ((), "kept"))

    def test_other_answers(self):
        """They are given for any number of parts."""
        for seed in range(4):
            market = great_ways(seed, 6)
            notes = great_notes(seed, market)
            desk = Desk(market, notes, 2, bought=market.there()[:2])
            self.same(desk.short, False)
            low, high = desk.pay_ends()
            self.assertTrue(0 <= low <= high)
            world = tuple(0 if part in desk.bought else number for part, number in enumerate(notes.lows))
            seen = Desk(market, Notes.seen_at(notes.lows), 2, bought=desk.bought)
            stock = seen.sure_stock()
            self.assertTrue(is_a_stock(market, 2, stock))
            self.same(price(world, stock), seen.pay_ends()[0])
            steps = seen.next_ends()
            self.assertEqual(steps[0], steps[1])
            self.same(seen.regret_of(stock), 0)
            self.assertGreaterEqual(desk.regret_of(stock), 0)
            self.same(desk.losses_left(), strength(market) - 1)
            lost = seen.lose(stock[0])
            self.same((lost, seen.loss), ((), (stock[0],)))
            self.assertNotIn(stock[0], seen.sure_stock() or ())


class AskingAndNarrowing(Case):
    """Promise 140."""

    def test_small_desks(self):
        settled = 0
        for seed in range(80):
            desk = random_desk(seed, most_parts=6)
            chance = random.Random(seed)
            if desk.short or not desk.market.many:
                continue
            for _ in range(6):
                before = Words(desk)
                verdicts, ends = before.verdicts, desk.pay_ends()
                part = chance.randrange(desk.market.many)
                if part in desk.bought:
                    continue
                low, high = desk.notes.stretches[part]
                if chance.random() < 0.5:
                    desk.ask(part, chance.randint(low, high))
                else:
                    desk.narrow(part, *sorted((chance.randint(low, high), chance.randint(low, high))))
                for other, verdict in enumerate(verdicts):
                    if verdict in ("in", "out"):
                        settled += 1
                        self.same(desk.verdict(other), verdict)
                after = desk.pay_ends()
                self.assertTrue(ends[0] <= after[0] and after[1] <= ends[1])
                for stock in before.found[:5]:
                    self.assertLessEqual(desk.regret_of(stock), before.regret(stock))
                for stock in before.safe:
                    self.same(is_safe(desk.left, desk.number, desk.now, stock), True)
        self.assertGreater(settled, 200)


class LossesAndPairs(Case):
    """Promise 141 (join)."""

    def desks(self, many):
        seed = told = 0
        while told < many:
            seed += 1
            desk = random_desk(seed, Join, 6)
            if not desk.short and desk.left.there():
                told += 1
                yield seed, desk

    def check_kept_verdicts(self, desk, part, before, stays):
        """stays tells for the verdicts "in" and "out" whether a part is with, or against, the part."""
        checked = 0
        for other, verdict in before.items():
            if other in stays.get(verdict, ()) or verdict not in ("in", "out", "unsettled"):
                continue
            apart = not any(other in row for row in stays.values())
            if verdict in ("in", "out") or apart:
                checked += 1
                self.same(desk.verdict(other), verdict)
        return checked

    def verdicts_beside(self, desk, part):
        return {other: desk.verdict(other) for other in desk.left.there() if other != part}

    def test_losing_and_finding(self):
        checked = 0
        for seed, desk in self.desks(80):
            for part in desk.left.there():
                before = self.verdicts_beside(desk, part)
                allies, rivals = (told(desk.left, desk.number, part) for told in (with_parts, against_parts))
                desk.lose(part)
                if desk.short:
                    desk.back()
                    continue
                checked += self.check_kept_verdicts(desk, part, before, {"in": allies, "out": rivals})
                lost = self.verdicts_beside(desk, part)
                desk.find(part)
                checked += self.check_kept_verdicts(desk, part, lost, {"in": rivals, "out": allies})
        self.assertGreater(checked, 300)

    def test_offering(self):
        checked = 0
        for seed, desk in self.desks(60):
            chance = random.Random(seed)
            for run in chance.sample(all_runs(desk.market.size), min(3, len(all_runs(desk.market.size)))):
                part = desk.market.many
                before = self.verdicts_beside(desk, part)
                low = chance.randint(0, 3)
                desk.offer(run, low, low + chance.randint(0, 2))
                allies, rivals = (told(desk.left, desk.number, part) for told in (with_parts, against_parts))
                checked += self.check_kept_verdicts(desk, part, before, {"in": rivals, "out": allies})
                desk.back()
        self.assertGreater(checked, 100)

    def test_buying(self):
        checked = 0
        for seed, desk in self.desks(80):
            for part in desk.left.there():
                if part in desk.bought:
                    continue
                desk.ask(part, desk.notes.highs[part])
                before = self.verdicts_beside(desk, part)
                allies, rivals = (told(desk.left, desk.number, part) for told in (with_parts, against_parts))
                desk.buy(part, desk.notes.lows[part])
                checked += self.check_kept_verdicts(desk, part, before, {"in": rivals, "out": allies})
                desk.back()
                desk.back()
        self.assertGreater(checked, 200)

    def test_asking(self):
        apart = 0
        for seed, desk in self.desks(80):
            for part in desk.left.there():
                if part in desk.bought:
                    continue
                near = with_parts(desk.left, desk.number, part) + against_parts(desk.left, desk.number, part)
                for asked in desk.notes.stretches[part]:
                    news = desk.ask(part, asked)
                    self.assertTrue(set(news) <= set(near) | {part})
                    apart += len(desk.left.there()) - 1 - len(set(near))
                    desk.back()
        self.assertGreater(apart, 100)


class TwoLosses(Case):
    """Promise 142 (join)."""

    def test_small_desks(self):
        told = {}
        for seed in range(150):
            desk = random_desk(seed, Join, 6)
            if desk.short:
                continue
            for one, other in itertools.combinations(desk.left.there(), 2):
                allies, rivals = (function(desk.left, desk.number, one) for function in (with_parts, against_parts))
                far = set(desk.left.there()) - {one, other} - set(desk.bought)
                for part in (one, other):
                    far -= set(with_parts(desk.left, desk.number, part) + against_parts(desk.left, desk.number, part))
                start, before = desk.pay_ends(), {part: desk.verdict(part) for part in far}
                rises = []
                for lost in ((one,), (other,), (one, other)):
                    for part in lost:
                        desk.lose(part)
                    rises.append(None if desk.short else [a - b for a, b in zip(desk.pay_ends(), start)])
                    kept = {part: desk.verdict(part) for part in far}
                    for _ in lost:
                        desk.back()
                if rises[2] is None:
                    continue
                for first, second, both in zip(*rises):
                    word = (other in allies, other in rivals)
                    told[word] = told.get(word, 0) + 1
                    if other not in allies:
                        self.assertGreaterEqual(both, first + second)
                    if other not in rivals:
                        self.assertLessEqual(both, first + second)
                if other not in allies + rivals:
                    self.same(kept, before)
        self.assertTrue(all(told[word] > 10 for word in ((True, False), (False, True), (False, False))), told)


class Offers(Case):
    """Promise 143."""

    def test_small_desks(self):
        told = {}
        for seed in range(200):
            desk = random_desk(seed)
            stock = desk.sure_stock()
            if stock is None:
                continue
            high, low = desk.now.high_on(stock), desk.now.low_on(stock)
            left, number = desk.left, desk.number
            for run in all_runs(left.size):
                at_high, at_low = (entry(left, number, world, run) for world in (high, low))
                at_high, at_low = (-1 if one is None else one for one in (at_high, at_low))
                for stretch in ((0, 0), (0, 2), (1, 1), (2, 3), (3, 9)):
                    desk.offer(run, *stretch)
                    verdict = desk.verdict(desk.market.many - 1)
                    self.same(is_safe(desk.left, number, desk.now, stock), stretch[0] >= at_high)
                    self.same(verdict == "out", stretch[0] > at_high)
                    self.same(verdict == "in", stretch[1] < at_low)
                    told[verdict] = told.get(verdict, 0) + 1
                    desk.back()
            for part in desk.left.there():
                if part not in stock:
                    desk.lose(part)
                    self.same(is_safe(desk.left, number, desk.now, stock), True)
                    desk.back()
        self.assertTrue(min(told[word] for word in ("in", "out", "unsettled")) > 60, told)


class Buying(Case):
    """Promise 144."""

    def test_small_desks(self):
        told = {True: 0, False: 0}
        for seed in range(80):
            desk = random_desk(seed, most=12)
            if desk.short:
                continue
            words = Words(desk)
            for part in desk.left.there():
                if part in desk.bought:
                    continue
                verdict, spent = desk.verdict(part), desk.spent
                for world in words.worlds:
                    cost = best_price(world, words.found)
                    desk.buy(part, world[part])
                    after = tuple(0 if other == part else number for other, number in enumerate(world))
                    told_now = desk.spent + best_price(after, words.found)
                    self.assertGreaterEqual(told_now, spent + cost)
                    useful = any(part in stock for stock in words.found if price(world, stock) == cost)
                    self.same(told_now == spent + cost, world[part] == 0 or useful)
                    told[told_now == spent + cost] += 1
                    if verdict == "in":
                        self.same(told_now, spent + cost)
                    desk.back()
        self.assertTrue(min(told.values()) > 100, told)


class OneMore(Case):
    """Promise 145 (join)."""

    def test_small_desks(self):
        kept = 0
        for seed in range(200):
            desk = random_desk(seed, Join, 7)
            number = seed % 2
            desk.want(number)
            if strength(desk.left) < number + 1 or not grows_at(desk.left, number):
                continue
            small = [desk.verdict(part) for part in range(desk.market.many)]
            desk.want(number + 1)
            large = [desk.verdict(part) for part in range(desk.market.many)]
            for one, other in zip(small, large):
                if one == "in":
                    kept += 1
                    self.same(other, "in")
                if other == "out":
                    kept += 1
                    self.same(one, "out")
        self.assertGreater(kept, 60)


class Finishing(Case):
    """Promise 146."""

    def test_small_desks(self):
        asks = 0
        for seed in range(150):
            desk = random_desk(seed, most_parts=7, most=60, top=1)
            if desk.short:
                self.fails(NoStock, {}, desk.finish, desk.notes.lows)
                continue
            chance = random.Random(seed)
            world = chance.choice(agreeing(desk.notes))
            now, left, number, length = desk.now, desk.left, desk.number, len(desk)
            twin = Desk(desk.market, desk.notes, number, bought=desk.bought)
            asked = desk.finish(list(world))
            self.assertIs(type(asked), tuple)
            self.same(len(desk), length + len(asked))
            stock = desk.sure_stock()
            self.assertIsNotNone(stock)
            free = tuple(0 if part in desk.bought else one for part, one in enumerate(world))
            self.same(price(free, stock), best_price(free, stocks(left, number)))
            self.same(is_paper(left, number, now, free, stock, asked), True)
            told = Told(left, number, now, free, stock)
            self.assertTrue(told.fewest <= len(asked) <= len(now.unseen()))
            for part in asked:
                # Each time the least part that is unseen and unsettled.
                self.same(twin.sure_stock(), None)
                self.same(part, min(one for one in twin.unsettled() if not twin.now.is_seen(one)))
                twin.ask(part, world[part])
            self.same(answers(twin), answers(desk))
            asks += len(asked) > 1
            for _ in asked:
                desk.back()
            self.same(answers(desk), answers(Desk(desk.market, desk.notes, number, bought=desk.bought)))
            self.assertEqual(desk.now.stretches, now.stretches)
        self.assertGreater(asks, 8)

    def test_nothing_to_ask(self):
        desk = Desk(Join(1, [(0, 1), (0, 1)]), Notes([(1, 2), (2, 5)]), 1)
        self.same((desk.finish((2, 2)), len(desk)), ((), 0))

    def test_lost_and_gone_parts(self):
        """Their prices must agree, but they are not asked."""
        desk = Desk(Join(1, [(0, 1)] * 5, gone=[0]), Notes([(0, 9)] * 5), 1, bought=[1])
        desk.lose(1)
        desk.lose(2)
        self.fails(NotAgreeing, {"part": 0}, desk.finish, (10, 0, 0, 0, 0))
        self.fails(NotAgreeing, {"part": 1}, desk.finish, (0, 10, 10, 0, 0))
        self.same(desk.finish((5, 5, 5, 4, 4)), (3, 4))
        self.same((desk.sure_stock() in ((3,), (4,)), desk.notes.stretches), (True, ((0, 9),) * 3 + ((4, 4),) * 2))
        # A kept part has its own stretch in the notes of the desk, and the world must agree with that.
        kept = Desk(Join(1, [(0, 1)] * 2), Notes([(3, 5), (1, 2)]), 1, bought=[0])
        self.fails(NotAgreeing, {"part": 0}, kept.finish, (0, 1))
        self.same(kept.finish((4, 1)), ())


class TrueWorlds(Case):
    """Promise 147."""

    def test_small_desks(self):
        for seed in range(60):
            chance = random.Random(seed)
            desk = random_desk(seed)
            world = list(chance.choice(agreeing(desk.notes)))
            worlds = [list(world)]
            for _ in range(8):
                name, arguments = random_deed(chance, desk)
                if name in ("ask", "buy") and arguments[0] < len(world):
                    arguments = (arguments[0], world[arguments[0]])
                if error_of(desk, name, arguments) is not None:
                    continue
                if name == "narrow" and not arguments[1] <= world[arguments[0]] <= arguments[2]:
                    continue
                if name == "offer":
                    world.append(chance.randint(*arguments[1:]))
                getattr(desk, name)(*arguments)
                worlds.append(list(world))
                if chance.random() < 0.15:
                    desk.back()
                    worlds.pop()
                    world = list(worlds[-1])
                self.check_world(desk, tuple(world))

    def check_world(self, desk, world):
        self.same(desk.notes.agrees(world), True)
        if desk.short:
            return
        kept = set(desk.bought) - set(desk.loss)
        free = tuple(0 if part in kept else one for part, one in enumerate(world))
        found = stocks(desk.left, desk.number)
        cost = best_price(free, found)
        best = [stock for stock in found if price(free, stock) == cost]
        for part in desk.left.there():
            if desk.verdict(part) == "in":
                self.assertTrue(all(part in stock for stock in best))
            if desk.verdict(part) == "out":
                self.assertFalse(any(part in stock for stock in best))
        low, high = desk.pay_ends()
        self.assertTrue(low <= cost <= high)
        if desk.sure_stock() is not None:
            self.assertIn(desk.sure_stock(), best)
        for stock in found[:4]:
            self.assertGreaterEqual(desk.regret_of(stock), price(free, stock) - cost)


class Wrong(Case):
    """Promises 1 and 2."""

    def desk(self, kind=Join):
        desk = Desk(kind(4, [(0, 4), (0, 2), (2, 4), (0, 4), (0, 4)], gone=[4]), Notes([(1, 5)] * 5), 1, bought=[3])
        desk.lose(2)
        return desk

    def test_making(self):
        for kind in (Join, Lap):
            market, notes = kind(1, [(0, 1)] * 3, gone=[0, 2]), Notes.unknown(3, 4)
            for value in NO_INTEGERS + (-1,):
                self.fails(BadNumber, {"name": "number"}, Desk, market, notes, value)
            for value in NO_ROWS:
                self.fails(BadSet, {"place": -1}, Desk, market, notes, 1, bought=value)
            faults = [(2, -1, BadNumber, {"name": "number"}), (3, [1, 1], BadSet, {"place": 1}),
                      (3, [2, 1, 0], IsGone, {"part": 0}), (1, Notes.unknown(2, 4), OtherSize, {"size": 2})]
            self.order(lambda *told: Desk(*told[:3], bought=told[3]), (market, notes, 1, [1]), faults)
            # Also where no verdicts are told, or the desk is short.
            self.fails(OtherSize, {"size": 12}, Desk, kind(1, [(0, 1)] * 11), Notes.unknown(12, 4), 1)
            self.fails(OtherSize, {"size": 4}, Desk, market, Notes.unknown(4, 4), 3)

    def test_parts(self):
        for kind in (Join, Lap):
            desk = self.desk(kind)
            state = (contents(desk), answers(desk))
            calls = [(desk.ask, (1,)), (desk.narrow, (1, 2)), (desk.lose, ()), (desk.find, ()), (desk.buy, (1,)),
                     (desk.verdict, ())]
            for function, more in calls:
                for value in NO_INTEGERS + (-1, 5):
                    self.fails(BadPart, {"part": value}, function, value, *more)
            for function, more in calls[:2] + [(desk.buy, (1,))]:
                self.fails(IsBought, {"part": 3}, function, 3, *more)
            for function, more in ((desk.lose, ()), (desk.buy, (None,))):
                self.fails(IsGone, {"part": 4}, function, 4, *more)
                self.fails(IsLost, {"part": 2}, function, 2, *more)
            for part in (0, 3, 4):
                self.fails(NotLost, {"part": part}, desk.find, part)
            # True is no part, also if part 1 is bought or lost.
            one = Desk(kind(1, [(0, 1)] * 3), Notes.unknown(3, 4), 1, bought=[1])
            for function, more in ((one.ask, (1,)), (one.narrow, (1, 2)), (one.buy, (1,)), (one.lose, ())):
                self.fails(BadPart, {"part": True}, function, True, *more)
            one.lose(1)
            for function, more in ((one.find, ()), (one.lose, ()), (one.verdict, ())):
                self.fails(BadPart, {"part": True}, function, True, *more)
            self.same((contents(desk), answers(desk)), state)

    def test_prices_and_stretches(self):
        desk = self.desk()
        state = (contents(desk), answers(desk))
        for function in (desk.ask, desk.buy):
            for value in NO_INTEGERS + (-1,):
                self.fails(BadNumber, {"name": "price"}, function, 0, value)
                self.fails(BadPart, {"part": 5}, function, 5, value)
                self.fails(IsBought, {"part": 3}, function, 3, value)
            for value in (0, 6, 10 ** 30):
                self.fails(NotAgreeing, {"part": 0}, function, 0, value)
        for stretch in WRONG_STRETCHES + ((0, 5), (1, 6), (6, 6)):
            self.fails(BadStretch, {"part": 0}, desk.narrow, 0, *stretch)
            self.fails(IsBought, {"part": 3}, desk.narrow, 3, *stretch)
        for stretch in WRONG_STRETCHES:
            self.fails(BadStretch, {"part": 5}, desk.offer, (0, 4), *stretch)
            self.fails(BadRun, {"place": -1}, desk.offer, (4, 0), *stretch)
        for run in WRONG_RUNS:
            self.fails(BadRun, {"place": -1}, desk.offer, run, 0, 1)
        for value in NO_INTEGERS + (-1,):
            self.fails(BadNumber, {"name": "number"}, desk.want, value)
        self.same((contents(desk), answers(desk)), state)

    def test_stocks_and_worlds(self):
        desk = self.desk()
        for value in NO_ROWS:
            self.fails(BadSet, {"place": -1}, desk.regret_of, value)
            self.fails(BadWorld, {"place": -1}, desk.finish, value)
        self.fails(BadSet, {"place": 1}, desk.regret_of, [0, 5])
        self.fails(NotAStock, {"place": -1}, desk.regret_of, [1, 2])
        self.fails(NotAStock, {"place": -1}, desk.regret_of, [4])
        self.fails(NotAStock, {"place": 0}, desk.regret_of, [0, 3])
        self.same((desk.regret_of([3]), desk.regret_of((0,))), (0, 5))
        self.fails(BadWorld, {"place": 4}, desk.finish, [1, 1, 1, 1, -1])

    def test_orders_of_finish(self):
        market = Join(1, [(0, 1)] * 11)
        for number, error, fields in ((12, NoStock, {}), (1, NotAgreeing, {"part": 2})):
            desk = Desk(market, Notes([(0, 1)] * 11), number)
            self.fails(BadWorld, {"place": 0}, desk.finish, [None] + [5] * 10)
            self.fails(error, fields, desk.finish, [1, 1] + [5] * 9)
        self.fails(TooMany, {"number": 11}, desk.finish, [1] * 11)
        self.same(len(desk), 0)

    def test_arguments_stay(self):
        run, stock, world = [0, 1], [1], [1, 2, 0]
        desk = Desk(Join(1, [(0, 1), (0, 1)]), Notes([(1, 4), (2, 3)]), 1)
        desk.offer(run, 0, 0)
        told = (desk.regret_of(stock), desk.finish(world))
        self.assertEqual((run, stock, world), ([0, 1], [1], [1, 2, 0]))
        run[1] = 9
        world[0] = 7
        self.same((told, desk.market.runs), ((3, ()), ((0, 1), (0, 1), (0, 1))))
        # A market or notes that were read from a desk are not changed by later deeds.
        market, notes, left, now = desk.market, desk.notes, desk.left, desk.now
        before = repr((market.runs, market.gone, notes.stretches, left.gone, now.stretches))
        for deed in (lambda: desk.ask(0, 2), lambda: desk.lose(1), lambda: desk.buy(2, 0), lambda: desk.want(2),
                     lambda: desk.offer((0, 1), 1, 2), desk.back):
            deed()
        self.same(repr((market.runs, market.gone, notes.stretches, left.gone, now.stretches)), before)

    def test_equal_contents(self):
        """Whatever deeds were done in whatever order."""
        market, notes = Join(2, [(0, 1), (1, 2), (0, 2), (0, 1)]), Notes([(1, 4), (2, 3), (0, 9), (2, 5)])
        one, other = Desk(market, notes, 1), Desk(market, notes, 2)
        for name, arguments in (("lose", (3,)), ("ask", (2, 5)), ("buy", (1, 2)), ("offer", ((0, 1), 0, 3))):
            getattr(one, name)(*arguments)
        for name, arguments in (("offer", ([0, 1], 0, 3)), ("want", (1,)), ("buy", (1, 2)), ("narrow", (2, 4, 6)),
                                ("lose", (0,)), ("lose", (3,)), ("ask", (2, 5)), ("find", (0,))):
            getattr(other, name)(*arguments)
        self.same(answers(one), answers(other))
        self.same((len(one), len(other), one.spent, other.spent), (4, 8, 2, 2))
        for chosen in all_sets(one.left.there()):
            if is_a_stock(one.left, 1, chosen):
                self.same(one.regret_of(chosen), other.regret_of(chosen))
        self.same(repr(random_world(1, market)), repr(random_world(1, Join(2, market.runs))))


if __name__ == "__main__":
    unittest.main()
