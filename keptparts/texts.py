"""Texts of markets: one line for the row, then one line for each part."""

from keptparts.checks import is_run
from keptparts.errors import BadNumber, BadRun, BadText
from keptparts.markets import GREATEST_SIZE, Join, Lap

DIGITS = "0123456789"
MOST_DIGITS = 9


def market_text(market):
    """The text of a market."""
    lines = [f"{market.KIND} {market.size}\n"]
    for part, (begin, end) in enumerate(market.runs):
        word = " gone" if part in market.gone else ""
        lines.append(f"{begin} {end}{word}\n")
    return "".join(lines)


def market_from(text):
    """The market of a text."""
    if not isinstance(text, str):
        raise BadText(0)
    lines = text.split("\n")
    if len(lines) == 1:
        raise BadText(1)
    kind, size = row_line(lines[0])
    runs = []
    gone = []
    for part, line in enumerate(lines[1:-1]):
        run, is_gone = part_line(size, part, line)
        runs.append(run)
        if is_gone:
            gone.append(part)
    if lines[-1] != "":
        raise BadText(len(lines))
    if kind == "join":
        return Join(size, runs, gone=gone)
    return Lap(size, runs, gone=gone)


def row_line(line):
    """The kind and the size that the first line tells."""
    words = line.split(" ")
    if len(words) != 2 or words[0] not in ("join", "lap"):
        raise BadText(1)
    size = number_of(words[1])
    if size is None:
        raise BadText(1)
    if size < 1 or size > GREATEST_SIZE:
        raise BadText(1) from BadNumber("size")
    return words[0], size


def part_line(size, part, line):
    """The run of a part, and whether the part is gone."""
    words = line.split(" ")
    is_gone = len(words) == 3 and words[2] == "gone"
    if len(words) != 2 and not is_gone:
        raise BadText(part + 2)
    run = (number_of(words[0]), number_of(words[1]))
    if None in run:
        raise BadText(part + 2)
    if not is_run(size, run):
        raise BadText(part + 2) from BadRun(part)
    return run, is_gone


def number_of(word):
    """The number that a word tells, None if it tells none."""
    if word == "" or len(word) > MOST_DIGITS or not all([sign in DIGITS for sign in word]):
        return None
    if word[0] == "0" and word != "0":
        return None
    return int(word)
