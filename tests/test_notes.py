import random
import unittest

from keptparts.cheapest import price_of
from keptparts.errors import (
    BadNumber, BadPart, BadSet, BadStretch, BadWorld, NotAgreeing, OtherSize, TooMany,
)
from keptparts.markets import Join, Lap
from keptparts.notes import Notes, check_notes, count_worlds, path, worlds
from keptparts.tables import Table
from support import (
    NO_INTEGERS, NO_ROWS, Case, agreeing, all_runs, all_sets, best_stocks, more_by, price, random_cases, random_market,
    random_notes, row_of, stocks,
)

NO_STRETCHES = (
    (2, 1), (-1, 1), (1,), (1, 2, 3), (0, True), (False, 1), (0, 1.0), (None, 1), "01", 5, None, {0: 1, 1: 2}, {0, 1},
)


class Making(Case):
    """Promise 46: stretches, seen and unseen parts."""

    def test_attributes(self):
        for stretches in ([(0, 1), [3, 3], (5, 10 ** 30)], ([0, 1], (3, 3), [5, 10 ** 30])):
            notes = Notes(stretches)
            self.same(notes.stretches, ((0, 1), (3, 3), (5, 10 ** 30)))
            self.same((notes.lows, notes.highs), ((0, 3, 5), (1, 3, 10 ** 30)))
            self.same((len(notes), notes.settled, notes.unseen()), (3, False, (0, 2)))
            self.same([notes.is_seen(part) for part in range(3)], [False, True, False])

    def test_no_part(self):
        for notes in (Notes([]), Notes(()), Notes.unknown(0, 5), Notes.seen_at([])):
            self.same((notes.stretches, notes.lows, notes.highs, len(notes)), ((), (), (), 0))
            self.same((notes.settled, notes.unseen(), notes.agrees(())), (True, (), True))
            self.same((notes.high_on([]), notes.low_on(())), ((), ()))
            self.same((count_worlds(notes), list(worlds(notes)), path(notes, (), [])), (1, [()], [()]))

    def test_unknown(self):
        self.same(Notes.unknown(3, 7).stretches, ((0, 7),) * 3)
        self.same(Notes.unknown(2, 0).settled, True)
        self.assertIs(type(Notes.unknown(1, 1)), Notes)
        for wrong in NO_INTEGERS + (-1,):
            self.fails(BadNumber, {"name": "many"}, Notes.unknown, wrong, wrong)
            self.fails(BadNumber, {"name": "top"}, Notes.unknown, 2, wrong)

    def test_seen_at(self):
        for world in ([3, 0, 10 ** 30], (3, 0, 10 ** 30)):
            notes = Notes.seen_at(world)
            self.assertIs(type(notes), Notes)
            self.same((notes.stretches, notes.settled), (((3, 3), (0, 0), (10 ** 30, 10 ** 30)), True))
        for wrong in NO_ROWS:
            self.fails(BadWorld, {"place": -1}, Notes.seen_at, wrong)
        for wrong in NO_INTEGERS + (-1,):
            self.fails(BadWorld, {"place": 1}, Notes.seen_at, [0, wrong, wrong])

    def test_wrong_stretches(self):
        for wrong in NO_ROWS:
            self.fails(BadStretch, {"part": -1}, Notes, wrong)
        for wrong in NO_STRETCHES:
            self.fails(BadStretch, {"part": 0}, Notes, [wrong])
            self.fails(BadStretch, {"part": 2}, Notes, ((0, 0), [1, 2], wrong, wrong))

    def test_equality(self):
        self.same(Notes([(0, 1), [2, 3]]) == Notes(([0, 1], (2, 3))), True)
        self.same(Notes([(0, 1)]) != Notes([(0, 1)]), False)
        self.same(Notes([(0, 1)]) == Notes([(0, 2)]), False)
        self.same(Notes([(0, 1)]) == Notes([(0, 1), (0, 1)]), False)
        self.same(Notes([(0, 1)]) == ((0, 1),), False)
        self.same(Notes([]) == None, False)  # noqa: E711

    def test_slots(self):
        self.assertIn("__slots__", vars(Notes))
        with self.assertRaises(AttributeError):
            Notes([]).more = 1

    def test_defined_in_the_class(self):
        names = ("is_seen", "unseen", "agrees", "high_on", "low_on", "ask", "narrow", "after", "kept_free",
                 "and_stretch", "__len__", "__eq__")
        for name in names:
            self.assertIn(name, vars(Notes))
        self.assertIsInstance(vars(Notes)["settled"], property)
        for name in ("unknown", "seen_at"):
            self.assertIsInstance(vars(Notes)[name], classmethod)


class Worlds(Case):
    """Promise 46: agreeing worlds."""

    def test_agrees(self):
        for seed in range(40):
            market = random_market(seed, most_parts=4)
            notes = random_notes(seed, market)
            chance = random.Random(seed)
            told = agreeing(notes)
            for _ in range(20):
                world = [chance.randint(0, 6) for _ in market.runs]
                self.same(notes.agrees(world), tuple(world) in told)
            for world in told:
                self.same(notes.agrees(world), True)

    def test_wrong_worlds(self):
        notes = Notes([(0, 1), (3, 3)])
        for ask in (notes.agrees, lambda world: notes.after([], world), lambda world: path(notes, world, None),
                    lambda world: path(notes, (0, 3), world)):
            for wrong in NO_ROWS + ((), [1], (1, 2, 3)):
                self.fails(BadWorld, {"place": -1}, ask, wrong)
            for wrong in NO_INTEGERS + (-1,):
                self.fails(BadWorld, {"place": 1}, ask, [9, wrong])

    def test_high_and_low(self):
        notes = Notes([(0, 1), (3, 3), (5, 9), (2, 7)])
        for chosen in all_sets(range(4)):
            high = tuple((notes.highs if part in chosen else notes.lows)[part] for part in range(4))
            low = tuple((notes.lows if part in chosen else notes.highs)[part] for part in range(4))
            self.same((notes.high_on(chosen), notes.low_on(list(chosen)[::-1])), (high, low))
        for ask in (notes.high_on, notes.low_on, notes.kept_free, lambda parts: notes.after(parts, None)):
            for wrong in NO_ROWS:
                self.fails(BadSet, {"place": -1}, ask, wrong)
            for wrong in NO_INTEGERS + (-1, 4, 2):
                self.fails(BadSet, {"place": 1}, ask, [2, wrong])

    def test_all_worlds(self):
        for seed in range(40):
            notes = random_notes(seed, random_market(seed))
            self.same(list(worlds(notes)), agreeing(notes))
            self.same(count_worlds(notes), len(agreeing(notes)))

    def test_five_thousand_worlds(self):
        notes = Notes([(1, 50), (7, 7), (0, 99)])
        told = list(worlds(notes))
        self.same((count_worlds(notes), len(told), told[0], told[-1]), (5000, 5000, (1, 7, 0), (50, 7, 99)))
        self.assertEqual(told, sorted(set(told)))
        for stretches, number in (([(0, 5000)], 5001), ([(0, 1), (1, 2500), (3, 4)], 10000), ([(0, 10 ** 30)] * 2,
                                                                                            (10 ** 30 + 1) ** 2)):
            notes = Notes(stretches)
            self.same(count_worlds(notes), number)
            steps = worlds(notes)
            self.fails(TooMany, {"number": number}, next, steps)
        self.same(len(list(worlds(Notes([(10 ** 30, 10 ** 30 + 4999)])))), 5000)

    def test_path(self):
        notes = Notes([(0, 1), [3, 3], (5, 6)])
        self.same(path(notes, (0, 3, 6), [1, 3, 5]), [(0, 3, 6), (1, 3, 6), (1, 3, 5)])
        self.same(path(notes, [1, 3, 5], [1, 3, 5]), [(1, 3, 5)])
        for seed in range(60):
            notes = random_notes(seed, random_market(seed), 60)
            chance = random.Random(seed)
            one, other = chance.choice(agreeing(notes)), chance.choice(agreeing(notes))
            told = path(notes, list(one), list(other))
            self.same((told[0], told[-1]), (one, other))
            self.same(len(told), sum(abs(a - b) for a, b in zip(one, other)) + 1)
            for before, after in zip(told, told[1:]):
                part = next(part for part in range(len(one)) if before[part] != other[part])
                by = 1 if other[part] > before[part] else -1
                self.same(after, before[:part] + (before[part] + by,) + before[part + 1:])

    def test_path_errors(self):
        notes = Notes([(0, 10), (3, 3), (0, 6000)])
        self.fails(NotAgreeing, {"part": 1}, path, notes, (0, 4, 6001), (11, 3, 0))
        self.fails(NotAgreeing, {"part": 0}, path, notes, (0, 3, 0), (11, 4, 0))
        self.fails(BadWorld, {"place": 0}, path, notes, (0, 4, 0), (-1, 3, 0))
        self.fails(TooMany, {"number": 5001}, path, notes, (0, 3, 0), (10, 3, 4990))
        self.same(len(path(notes, (0, 3, 4990), (9, 3, 0))), 5000)
        far = Notes([(10 ** 30, 10 ** 30 + 9999)])
        self.same(path(far, [10 ** 30 + 9], [10 ** 30 + 7]), [(10 ** 30 + by,) for by in (9, 8, 7)])


class Changing(Case):
    """Promises 46 and 58: new notes with more known."""

    def setUp(self):
        self.notes = Notes([(0, 4), (3, 3), (5, 10 ** 30)])

    def told(self, notes, *stretches):
        self.assertIs(type(notes), Notes)
        self.same((notes.stretches, notes.lows, notes.highs), (
            stretches, tuple(low for low, _ in stretches), tuple(high for _, high in stretches)))
        self.same(self.notes.stretches, ((0, 4), (3, 3), (5, 10 ** 30)))

    def test_ask(self):
        for number in (0, 2, 4):
            self.told(self.notes.ask(0, number), (number, number), (3, 3), (5, 10 ** 30))
        self.told(self.notes.ask(2, 10 ** 30), (0, 4), (3, 3), (10 ** 30, 10 ** 30))
        self.told(self.notes.ask(1, 3), (0, 4), (3, 3), (5, 10 ** 30))
        for part, number in ((0, 5), (1, 2), (1, 4), (2, 4), (2, 10 ** 30 + 1)):
            self.fails(NotAgreeing, {"part": part}, self.notes.ask, part, number)
        self.order(Notes.ask, (self.notes, 0, 3), (
            (1, 3, BadPart, {"part": 3}), (2, -1, BadNumber, {"name": "price"}),
        ))
        for wrong in NO_INTEGERS + (-1,):
            self.fails(BadNumber, {"name": "price"}, self.notes.ask, 1, wrong)

    def test_narrow(self):
        self.told(self.notes.narrow(0, 1, 4), (1, 4), (3, 3), (5, 10 ** 30))
        self.told(self.notes.narrow(0, 0, 4), (0, 4), (3, 3), (5, 10 ** 30))
        self.told(self.notes.narrow(2, 6, 6), (0, 4), (3, 3), (6, 6))
        for part, low, high in ((0, 0, 5), (0, 3, 2), (1, 2, 3), (1, 3, 4), (2, 4, 9), (0, -1, 2), (0, True, 3),
                                (0, 0, 2.0), (0, None, 3), (0, 5, 6)):
            self.fails(BadStretch, {"part": part}, self.notes.narrow, part, low, high)
        self.fails(BadPart, {"part": -1}, self.notes.narrow, -1, 0, 99)

    def test_after(self):
        self.told(self.notes.after([2, 0], [1, 3, 7]), (1, 1), (3, 3), (7, 7))
        self.told(self.notes.after((), (1, 3, 7)), (0, 4), (3, 3), (5, 10 ** 30))
        self.fails(NotAgreeing, {"part": 0}, self.notes.after, [2], (5, 2, 4))
        self.fails(NotAgreeing, {"part": 1}, self.notes.after, [2], (4, 2, 4))
        self.order(Notes.after, (self.notes, [0], (1, 3, 7)), (
            (1, [0, 3], BadSet, {"place": 1}), (2, (1, 3, -7), BadWorld, {"place": 2}),
            (2, (1, 3, 4), NotAgreeing, {"part": 2}),
        ))

    def test_kept_free(self):
        self.told(self.notes.kept_free([2, 1]), (0, 4), (0, 0), (0, 0))
        self.told(self.notes.kept_free([]), (0, 4), (3, 3), (5, 10 ** 30))

    def test_and_stretch(self):
        self.told(self.notes.and_stretch(2, 9), (0, 4), (3, 3), (5, 10 ** 30), (2, 9))
        self.same(Notes([]).and_stretch(0, 0).stretches, ((0, 0),))
        for low, high in ((2, 1), (-1, 3), (True, 3), (0, None), (0.0, 1)):
            self.fails(BadStretch, {"part": 3}, self.notes.and_stretch, low, high)

    def test_wrong_parts(self):
        for part in NO_INTEGERS + (-1, 3):
            self.fails(BadPart, {"part": part}, self.notes.is_seen, part)
            self.fails(BadPart, {"part": part}, self.notes.ask, part, None)
            self.fails(BadPart, {"part": part}, self.notes.narrow, part, None, None)

    def test_arguments_stay(self):
        stretches = [[0, 4], [3, 3], [5, 10 ** 30]]
        notes = Notes(stretches)
        world, parts = [1, 3, 7], [2, 0]
        first = (notes.agrees(world), notes.high_on(parts), notes.after(parts, world).stretches,
                 notes.kept_free(parts).stretches, path(notes, world, [0, 3, 8]), list(worlds(Notes(stretches[:2]))))
        self.assertEqual((world, parts), ([1, 3, 7], [2, 0]))
        self.assertEqual(stretches, [[0, 4], [3, 3], [5, 10 ** 30]])
        short = Notes(stretches[:2])
        stretches[0][1] = 9
        stretches.append((0, 0))
        self.same(notes.stretches, ((0, 4), (3, 3), (5, 10 ** 30)))
        first[4].append("more")
        first[5].append("more")
        world = (1, 3, 7)
        again = (notes.agrees(world), notes.high_on((0, 2)), notes.after((0, 2), world).stretches,
                 notes.kept_free((0, 2)).stretches, path(notes, world, (0, 3, 8)) + ["more"],
                 list(worlds(short)) + ["more"])
        self.same(first, again)


class TwoWorlds(Case):
    """Promise 50: the ends of all differences are in two worlds."""

    def test_differences(self):
        for seed, market, demand, found in random_cases(40, most_places=3, most_parts=5):
            notes = random_notes(seed, market)
            chance = random.Random(seed)
            stock = chance.choice(all_sets(range(market.many)))
            lost = chance.choice([(), (0,) if market.many else ()])
            other = more_by(market, demand, chance.choice(all_runs(market.size)), chance.choice((-1, 0, 1)))
            rest = market.lose(lost)
            if not stocks(rest, other):
                continue
            told = {world: price_of(rest, other, world) - price(world, stock) for world in agreeing(notes)}
            ends = told[notes.high_on(stock)], told[notes.low_on(stock)]
            self.assertEqual(sorted(set(told.values())), list(range(ends[0], ends[1] + 1)))
            row = [told[world] for world in path(notes, notes.high_on(stock), notes.low_on(stock))]
            self.assertTrue(all(0 <= b - a <= 1 for a, b in zip(row, row[1:])))

    def test_beside_a_safe_stock(self):
        checked = 0
        for seed, market, demand, found in random_cases(60, most_places=3, most_parts=5):
            notes = random_notes(seed, market)
            told = agreeing(notes)
            safe = [stock for stock in found if all(stock in best_stocks(world, found) for world in told)]
            for stock in safe[:1]:
                tables = [Table(market, demand, world) for world in told]
                high, low = (Table(market, demand, world) for world in (notes.high_on(stock), notes.low_on(stock)))
                for run in all_runs(market.size):
                    for rows, least, greatest in (
                        ([table.more(run) for table in tables], high.more(run), low.more(run)),
                        ([table.less(run) for table in tables], low.less(run), high.less(run)),
                    ):
                        checked += 1
                        if None in rows:
                            self.assertEqual(set(rows), {None})
                        else:
                            self.assertEqual(sorted(set(rows)), list(range(least, greatest + 1)))
        self.assertGreater(checked, 150)

    def test_two_demands(self):
        for seed, market, demand, found in random_cases(30, most_places=3, most_parts=5):
            notes = random_notes(seed, market)
            chance = random.Random(seed)
            stock = chance.choice(found)
            rows = [more_by(market, demand, chance.choice(all_runs(market.size)), chance.choice((-1, 0, 1)))
                    for _ in range(2)]
            if all(stocks(market, row) for row in rows):
                told = {world: sum(price_of(market, row, world) for row in rows) - 2 * price(world, stock)
                        for world in agreeing(notes)}
                self.assertEqual(min(told.values()), told[notes.high_on(stock)])
                self.assertEqual(max(told.values()), told[notes.low_on(stock)])
            self.same(row_of(market, more_by(market, demand, (0, 1), 0)), row_of(market, demand))


class Checking(Case):
    def test_check_notes(self):
        for kind in (Join, Lap):
            market = kind(2, [(0, 1), (0, 2)], gone=[0])
            self.same(check_notes(market, Notes([(0, 1)] * 2)), None)
            for many in (0, 1, 3):
                self.fails(OtherSize, {"size": many}, check_notes, market, Notes([(0, 1)] * many))
        self.same(check_notes(Join(1, []), Notes([])), None)


if __name__ == "__main__":
    unittest.main()
