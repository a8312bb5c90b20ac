import unittest

from keptparts.errors import BadNumber, BadRun, BadText
from keptparts.markets import Join, Lap
from keptparts.texts import market_from, market_text
from support import Case, random_market

RIGHT = (
    "join 1\n", "lap 30\n", "join 3\n0 2\n1 3 gone\n0 2\n", "lap 30\n0 30\n29 30 gone\n",
    "join 10\n0 10\n9 10\n",
)
WRONG_FIRST = (
    "", "\n", " \n", "join\n", "join \n", " join 3\n", "join  3\n", "join 3 \n", "join 3\r\n", "join 3 4\n",
    "Join 3\n", "JOIN 3\n", "joint 3\n", "3 join\n", "join +3\n", "join -3\n", "join 03\n", "join 00\n",
    "join 3.0\n", "join x\n", "join\t3\n", "join 1234567890\n", "join 0000000001\n", "\njoin 3\n", "market 3\n",
    "join \u0663\n", "join \u00b2\n", "join 3\x0b\n", "join 3\x0c0 1\n", "join 3\u2028",
)
WRONG_PART = (
    "", " ", "0", "0 ", " 0 1", "0  1", "0 1 ", "0 1  gone", "0 1 gone ", "0 1 Gone", "0 1 lost", "0 1 gone gone",
    "00 1", "0 01", "-0 1", "+0 1", "0 +1", "a b", "0,1", "0-1", "0 1\r", "0\t1", "gone", "gone 0 1", "0 gone",
    "0 1234567890", "0 0000000001", "0 \u0661", "0 1 2", "0 1\x0b", "0 1 gone 0", "0 1\x85",
)
NO_RUN = ("0 4", "1 1", "2 1", "0 0", "3 3", "0 999999999", "999999999 0", "4 5", "0 4 gone", "2 1 gone")


class Texts(Case):
    """Promise 14: the text of a market."""

    def test_text(self):
        runs = [(0, 2), (1, 3), (0, 2)]
        self.same(market_text(Join(3, runs, gone=[1])), "join 3\n0 2\n1 3 gone\n0 2\n")
        self.same(market_text(Lap(30, [(0, 30), (29, 30)], gone=[1])), "lap 30\n0 30\n29 30 gone\n")
        self.same(market_text(Join(1, [])), "join 1\n")
        self.same(market_text(Lap(1, [])), "lap 1\n")

    def test_there_and_back(self):
        for seed in range(200):
            market = random_market(seed, None, 30, 8)
            again = market_from(market_text(market))
            self.assertIs(type(again), type(market))
            self.same(again == market, True)

    def test_back_and_there(self):
        for text in RIGHT:
            self.same(market_text(market_from(text)), text)

    def test_market(self):
        market = market_from("lap 3\n0 2\n1 3 gone\n0 2\n")
        self.assertIs(type(market), Lap)
        self.same((market.size, market.runs, market.gone), (3, ((0, 2), (1, 3), (0, 2)), (1,)))
        self.assertIs(type(market_from("join 1\n")), Join)


class WrongTexts(Case):
    """Promise 15: the line of the first fault, and its cause."""

    def wrong(self, text, line):
        told = self.fails(BadText, {"line": line}, market_from, text)
        self.assertIsNone(told.__cause__)

    def test_no_string(self):
        for text in (None, 3, True, b"join 3\n", ["join 3\n"], ("join 3\n",), {}):
            self.wrong(text, 0)

    def test_no_line_feed(self):
        for text in ("", "join 3", "join 99", "lap", "0 1", "x" * 50):
            self.wrong(text, 1)

    def test_first_line(self):
        for text in WRONG_FIRST:
            self.wrong(text, 1)
            self.wrong(text + "0 9\n", 1)

    def test_line_of_a_part(self):
        for line in WRONG_PART:
            self.wrong("join 3\n" + line + "\n", 2)
            self.wrong("lap 3\n0 1\n0 3 gone\n" + line + "\n0 9\nx\n", 4)

    def test_wrong_size(self):
        for size in ("0", "31", "999999999", "100"):
            for rest in ("\n", "\n0 1\n", "\nx\n", "\n0 9"):
                told = self.fails(BadText, {"line": 1}, market_from, "lap " + size + rest)
                self.assertIs(type(told.__cause__), BadNumber)
                self.assertEqual(told.__cause__.name, "size")

    def test_no_run(self):
        for line in NO_RUN:
            for rest in ("", "x\n", "0 9\n", "0 1"):
                text = "join 3\n0 1\n1 2 gone\n" + line + "\n" + rest
                told = self.fails(BadText, {"line": 4}, market_from, text)
                self.assertIs(type(told.__cause__), BadRun)
                self.same(told.__cause__.place, 2)

    def test_last_line_without_line_feed(self):
        for line in ("0 1", "0 1 gone", "x", " ", "0 9", "2 1 gone"):
            self.wrong("join 3\n" + line, 2)
            self.wrong("join 3\n0 2\n1 3\n" + line, 4)

    def test_first_fault_counts(self):
        told = self.fails(BadText, {"line": 2}, market_from, "join 3\n0 9\n0 x\n0 1")
        self.assertIs(type(told.__cause__), BadRun)
        self.wrong("join 3\n0 x\n0 9\n", 2)
        self.wrong("join 3\n0 1\n\n0 9\n", 3)

    def test_blank_line_at_the_end(self):
        self.wrong("join 3\n0 1\n\n", 3)
        self.wrong("join 3\n\n", 2)


if __name__ == "__main__":
    unittest.main()
