"""Trials: deeds of a desk that are all taken back at the end of a with block."""

from keptparts.errors import Closed


class Trial:
    """Leaves a desk as it was when the block began."""

    def __init__(self, desk):
        self.desk = desk
        self._entered = False
        self._ended = False

    @property
    def ended(self):
        """Whether the block has ended."""
        return self._ended

    def __enter__(self):
        if self._entered:
            raise Closed()
        self._entered = True
        desk = self.desk
        self._state = desk._state
        self._past = desk._past
        self._market = desk.market
        self._notes = desk.notes
        self._number = desk.number
        self._bought = desk.bought
        self._loss = desk.loss
        self._spent = desk.spent
        return self

    def __exit__(self, kind, value, trace):
        desk = self.desk
        desk._state = self._state
        desk._past = self._past
        desk.market = self._market
        desk.notes = self._notes
        desk.number = self._number
        desk.bought = self._bought
        desk.loss = self._loss
        desk.spent = self._spent
        self._ended = True


def tried(desk, part):
    """The news that losing the part would bring."""
    with Trial(desk):
        news = desk.lose(part)
    return news


def tried_offer(desk, run, low, high):
    """The verdict that a part more would get."""
    part = desk.market.many
    with Trial(desk):
        desk.offer(run, low, high)
        verdict = desk.verdict(part)
    return verdict
