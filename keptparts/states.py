"""States of a desk: what it keeps at one time, and what follows from this."""

from keptparts.covers import demand_of
from keptparts.errors import TooMany
from keptparts.possible import possible_stocks
from keptparts.rings import MOST_PARTS
from keptparts.sets import minus
from keptparts.stocks import any_stock


class State:
    """What a desk keeps at one time; a state never changes."""

    def __init__(self, market, notes, number, bought, loss, spent):
        self.market = market
        self.notes = notes
        self.number = number
        self.bought = bought
        self.loss = loss
        self.spent = spent
        self.rest = market.lose(loss)
        self.shown = notes.kept_free(minus(bought, loss))
        self.lacks = any_stock(self.rest, demand_of(self.rest, number)) is None
        self.verdicts = all_verdicts(self)
        self.doubtful = doubtful_parts(self.verdicts)


def all_verdicts(state):
    """The verdicts of all parts of the market, None if there are too many to tell."""
    if len(state.rest.there()) > MOST_PARTS:
        return None
    stocks = [] if state.lacks else possible_stocks(state.rest, state.number, state.shown)
    return tuple([verdict_on(state, part, stocks) for part in range(state.market.many)])


def verdict_on(state, part, stocks):
    """The verdict of a part, from all possible stocks."""
    if part in state.market.gone:
        return "gone"
    if part in state.loss:
        return "lost"
    if part in state.bought:
        return "kept"
    if state.lacks:
        return "short"
    having = [part in stock for stock in stocks]
    if all(having):
        return "in"
    return "unsettled" if any(having) else "out"


def doubtful_parts(verdicts):
    """The set of the parts that are unsettled, empty if no verdicts are told."""
    if verdicts is None:
        return ()
    return tuple([part for part, verdict in enumerate(verdicts) if verdict == "unsettled"])


def check_told(state):
    """Raise TooMany if there are too many parts for verdicts."""
    if state.verdicts is None:
        raise TooMany(len(state.rest.there()))


def news_between(before, after):
    """The parts of both states whose verdicts differ, none if they are not told in both."""
    if before.verdicts is None or after.verdicts is None:
        return ()
    pairs = list(zip(before.verdicts, after.verdicts))
    return tuple([part for part, (old, new) in enumerate(pairs) if old != new])
