import random
import unittest

from keptparts.desks import Desk
from keptparts.errors import BadPart, TooMany
from keptparts.listings import line_of, listing
from keptparts.markets import Join, Lap
from keptparts.notes import Notes
from support import NO_INTEGERS, Case, Words, random_market, random_notes


def line_by_words(desk, words, part):
    begin, end = desk.market.runs[part]
    low, high = desk.notes.stretches[part]
    stretch = "%d..%d" % (low, high) if low < high else "%d" % low
    if words.verdicts[part] == "kept":
        stretch = "0"
    return "%d %d-%d %s %s" % (part, begin, end, stretch, words.verdicts[part])


class Lines(Case):
    """Promise 137: the line of a part."""

    def test_in_words(self):
        desk = Desk(Join(12, [(0, 12), (0, 11), (11, 12), (0, 12), (0, 12)], gone=[4]),
                    Notes([(1, 5), (7, 7), (0, 10 ** 30), (4, 4), (2, 3)]), 1, bought=[3])
        desk.lose(1)
        self.same([line_of(desk, part) for part in range(5)],
                  ["0 0-12 1..5 out", "1 0-11 7 lost", "2 11-12 0..%d out" % 10 ** 30, "3 0-12 0 kept",
                   "4 0-12 2..3 gone"])
        desk.want(2)
        self.same([line_of(desk, part) for part in (0, 3)], ["0 0-12 1..5 in", "3 0-12 0 kept"])
        desk.want(3)
        self.same(line_of(desk, 0), "0 0-12 1..5 short")
        desk.lose(3)
        self.same(line_of(desk, 3), "3 0-12 4 lost")

    def test_wrong(self):
        desk = Desk(Lap(1, [(0, 1)] * 12), Notes([(0, 1)] * 12), 1)
        for value in NO_INTEGERS + (-1, 12):
            self.fails(BadPart, {"part": value}, line_of, desk, value)
        self.fails(TooMany, {"number": 12}, line_of, desk, 0)
        self.fails(TooMany, {"number": 12}, listing, desk)
        desk.lose(0)
        desk.lose(1)
        self.same((line_of(desk, 0), line_of(desk, 2)), ("0 0-1 0..1 lost", "2 0-1 0..1 unsettled"))


class Listings(Case):
    """Promises 137 and 138: the listing of a desk."""

    def test_small_desks(self):
        seen = set()
        for seed in range(150):
            chance = random.Random(seed)
            market = random_market(seed, None, 3, 5)
            notes = random_notes(seed, market, 40, 1)
            desk = Desk(market, notes, chance.choice((0, 1, 1, 2)),
                        bought=[part for part in market.there() if chance.random() < 0.2])
            for part in market.there():
                if chance.random() < 0.3:
                    desk.lose(part)
                elif part not in desk.bought and chance.random() < 0.3:
                    desk.buy(part, notes.lows[part])
            words = Words(desk)
            lines = ["%s of %d, wanted %d, spent %d, deeds %d"
                     % (market.KIND, market.size, desk.number, desk.spent, len(desk))]
            for part in range(market.many):
                lines.append(line_by_words(desk, words, part))
                self.same(line_of(desk, part), lines[-1])
            low, high = words.pay_ends()
            seen.add((low is None, low == high, bool(words.safe)))
            ends = "%d" % low if low == high and low is not None else "%s..%s" % (low, high)
            lines.append("short" if low is None else "to pay " + ends)
            told = listing(desk)
            if words.safe:
                stock = desk.sure_stock()
                lines.append("".join(["sure"] + [" %d" % part for part in stock]))
            else:
                lines.append("not sure")
            self.same(told, "".join(line + "\n" for line in lines))
        # Short, one price and sure, two ends and sure, two ends and not sure.
        self.assertTrue({(True, True, False), (False, True, True), (False, False, True), (False, False, False)} <= seen)

    def test_in_words(self):
        empty = Desk(Join(3, []), Notes([]), 0)
        self.same(listing(empty), "join of 3, wanted 0, spent 0, deeds 0\nto pay 0\nsure\n")
        empty.want(1)
        self.same(listing(empty), "join of 3, wanted 1, spent 0, deeds 1\nshort\nnot sure\n")
        lap = Desk(Lap(2, [(0, 2), (0, 2)]), Notes([(1, 4), (3, 3)]), 1)
        self.same(listing(lap), "lap of 2, wanted 1, spent 0, deeds 0\n0 0-2 1..4 unsettled\n1 0-2 3 unsettled\n"
                                "to pay 1..3\nnot sure\n")
        lap.buy(1, 3)
        self.same(listing(lap), "lap of 2, wanted 1, spent 3, deeds 1\n0 0-2 1..4 out\n1 0-2 0 kept\n"
                                "to pay 0\nsure 1\n")
        lap.back()
        lap.want(2)
        self.same(listing(lap), "lap of 2, wanted 2, spent 0, deeds 1\n0 0-2 1..4 in\n1 0-2 3 in\nto pay 4..7\n"
                                "sure 0 1\n")

    def test_equal_desks(self):
        """Promise 139: only the first line tells the deeds and what was spent."""
        market, notes = Join(1, [(0, 1)] * 3), Notes([(1, 4), (2, 2), (3, 3)])
        one, other = Desk(market, notes, 1), Desk(market, notes, 1, bought=[1])
        one.lose(2)
        one.find(2)
        one.buy(1, 2)
        self.same(listing(one).split("\n")[1:], listing(other).split("\n")[1:])
        self.same([listing(desk).split("\n")[0] for desk in (one, other)],
                  ["join of 1, wanted 1, spent 2, deeds 3", "join of 1, wanted 1, spent 0, deeds 0"])
        self.same(listing(one), listing(one))


if __name__ == "__main__":
    unittest.main()
