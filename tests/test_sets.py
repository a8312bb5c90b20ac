import itertools
import unittest

from keptparts.errors import BadNumber, BadSet
from keptparts.sets import both, common, minus, set_of, subsets
from support import NO_INTEGERS, NO_ROWS, Case


class Sets(Case):
    """Promise 1: sets of parts."""

    def test_set_of(self):
        self.same(set_of(5, [3, 0, 4]), (0, 3, 4))
        self.same(set_of(5, (4, 3, 2, 1, 0)), (0, 1, 2, 3, 4))
        self.same(set_of(5, []), ())
        self.same(set_of(0, ()), ())

    def test_argument_stays(self):
        parts = [2, 0]
        told = set_of(3, parts)
        self.assertEqual(parts, [2, 0])
        parts.append(1)
        self.assertEqual(told, (0, 2))

    def test_wrong_many(self):
        for wrong in NO_INTEGERS + (-1,):
            self.fails(BadNumber, {"name": "many"}, set_of, wrong, [0])
            self.fails(BadNumber, {"name": "many"}, set_of, wrong, "no set")

    def test_no_row(self):
        for wrong in NO_ROWS:
            self.fails(BadSet, {"place": -1}, set_of, 3, wrong)

    def test_wrong_items(self):
        for wrong in NO_INTEGERS + (-1, 3):
            self.fails(BadSet, {"place": 1}, set_of, 3, [2, wrong, 7])
        self.fails(BadSet, {"place": 0}, set_of, 0, [0])

    def test_twice(self):
        self.fails(BadSet, {"place": 2}, set_of, 4, (1, 3, 1, 9))
        self.fails(BadSet, {"place": 1}, set_of, 4, [0, 0])

    def test_operations(self):
        self.same(both((0, 2, 5), (1, 2)), (0, 1, 2, 5))
        self.same(common((0, 2, 5), (1, 2, 5)), (2, 5))
        self.same(minus((0, 2, 5), (2, 7)), (0, 5))
        self.same(both((), ()), ())
        self.same(common((1,), ()), ())
        self.same(minus((10, 20), ()), (10, 20))

    def test_subsets(self):
        for size in range(6):
            parts = tuple(range(3, 3 + 2 * size, 2))
            wanted = [row for r in range(size + 1) for row in itertools.combinations(parts, r)]
            self.same(list(subsets(parts)), wanted)

    def test_subsets_in_words(self):
        self.same(list(subsets((1, 4))), [(), (1,), (4,), (1, 4)])
        self.same(list(subsets(())), [()])

    def test_subsets_are_made_one_by_one(self):
        rows = subsets(tuple(range(60)))
        self.same([next(rows) for _ in range(3)], [(), (0,), (1,)])


if __name__ == "__main__":
    unittest.main()
