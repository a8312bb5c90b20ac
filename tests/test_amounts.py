import itertools
import unittest

from keptparts.amounts import at_most, gap, least, plus, total
from keptparts.errors import BadNumber
from support import NO_ROWS, Case

NO_AMOUNTS = (True, False, "1", 1.0, (1,), [None], b"1")
BIG = 10 ** 30


class Amounts(Case):
    """Promise 5: amounts and what is done with them."""

    def test_plus(self):
        self.same(plus(2, 3), 5)
        self.same(plus(-2, BIG), BIG - 2)
        self.same(plus(0, 0), 0)
        for one, other in ((None, 1), (1, None), (None, None)):
            self.assertIsNone(plus(one, other))

    def test_total(self):
        self.same(total([1, 2, 3]), 6)
        self.same(total((BIG, -1)), BIG - 1)
        self.same(total([]), 0)
        self.same(total(()), 0)
        self.assertIsNone(total([1, None, 2]))
        self.assertIsNone(total((None,)))

    def test_least(self):
        self.same(least([3, None, -2]), -2)
        self.same(least((None, 0)), 0)
        self.same(least([5, 4, 4]), 4)
        self.assertIsNone(least([None, None]))
        self.assertIsNone(least(()))

    def test_at_most(self):
        self.same(at_most(1, 1), True)
        self.same(at_most(1, 2), True)
        self.same(at_most(2, 1), False)
        self.same(at_most(0, None), True)
        self.same(at_most(None, None), True)
        self.same(at_most(None, BIG), False)

    def test_gap(self):
        self.same(gap(5, 3), 2)
        self.same(gap(3, 5), -2)
        self.assertIsNone(gap(None, 5))

    def test_wrong_one(self):
        for wrong, right in itertools.product(NO_AMOUNTS, (1, None, "x")):
            for function in (plus, at_most, gap):
                self.fails(BadNumber, {"name": "one"}, function, wrong, right)

    def test_wrong_other(self):
        for wrong, right in itertools.product(NO_AMOUNTS, (1, None)):
            for function in (plus, at_most, gap):
                self.fails(BadNumber, {"name": "other"}, function, right, wrong)

    def test_gap_needs_an_integer(self):
        self.fails(BadNumber, {"name": "other"}, gap, 1, None)
        self.fails(BadNumber, {"name": "other"}, gap, None, None)

    def test_wrong_rows(self):
        for function in (total, least):
            for wrong in NO_ROWS:
                self.fails(BadNumber, {"name": "row"}, function, wrong)
            for wrong in NO_AMOUNTS:
                self.fails(BadNumber, {"name": "row"}, function, [1, wrong])
                self.fails(BadNumber, {"name": "row"}, function, (None, wrong))

    def test_rows_are_not_changed(self):
        row = [3, None, 1]
        least(row)
        total(row)
        self.assertEqual(row, [3, None, 1])


if __name__ == "__main__":
    unittest.main()
