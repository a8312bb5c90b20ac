import doctest
import unittest

BEHIND_15 = """
>>> from keptparts.markets import Join
>>> from keptparts.covers import cover, is_stock, begins
>>> market = Join(3, [(0, 2), (2, 3), (0, 1), (1, 3)])
>>> [cover(market, [1, 0]), is_stock(market, 1, [0, 3]), begins(market, 2)]
[(1, 1, 1), False, (2, 0, 0, -2)]

>>> from keptparts.markets import Join
>>> from keptparts.halving import halves
>>> whole = Join(2, [(0, 1), (1, 2)]) | Join(1, [[0, 1]])
>>> [whole.runs, sorted(halves(whole, [0, 1, 2]))]
[((0, 1), (1, 2), (0, 2)), [(0, 1), (2,)]]

>>> from keptparts.markets import Lap
>>> from keptparts.texts import market_text
>>> market_text(Lap(2, [(0, 2), (0, 1)], gone=[1]))
'lap 2\\n0 2\\n0 1 gone\\n'
"""


class Examples(unittest.TestCase):
    """The examples of the document, as they stand there."""

    def run_examples(self, text, many):
        test = doctest.DocTestParser().get_doctest(text, {}, "examples", None, 0)
        runner = doctest.DocTestRunner()
        failures = []
        runner.run(test, out=failures.append)
        self.assertEqual("".join(failures), "")
        self.assertEqual(sum(bool(example.want) for example in test.examples), many)

    def test_behind_15(self):
        self.run_examples(BEHIND_15, 3)


if __name__ == "__main__":
    unittest.main()
