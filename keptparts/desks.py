"""Desks: a market, what is known of its prices, purchases and losses, and answers after each deed."""

from keptparts.checks import is_within
from keptparts.covers import demand_of
from keptparts.cuts import strength
from keptparts.errors import FixedWanted, IsBought, IsLost, NoStock, NothingBack, NotLost
from keptparts.markets import check_part, check_run, check_there, part_there
from keptparts.notes import check_agrees, check_notes
from keptparts.regrets import price_ends, regret
from keptparts.rings import check_few
from keptparts.safety import safe_stock
from keptparts.sets import both, minus, set_of
from keptparts.states import State, check_told, news_between
from keptparts.waiting import check_count
from keptparts.walks import cheapest_walk, world_of


class Desk:
    """Keeps a market, notes, a wanted size, purchases and losses."""

    def __init__(self, market, notes, number, *, bought=()):
        check_count("number", number)
        paid = set_of(market.many, bought)
        check_there(market, paid)
        check_notes(market, notes)
        self._past = ()
        self._take(State(market, notes, number, paid, (), 0))

    def _take(self, state):
        """Be in the state."""
        self._state = state
        self.market = state.market
        self.notes = state.notes
        self.number = state.number
        self.bought = state.bought
        self.loss = state.loss
        self.spent = state.spent

    def _turn(self, state):
        """Be in the state by a deed, and tell the news."""
        before = self._state
        self._past = self._past + (before,)
        self._take(state)
        return news_between(before, state)

    def _told(self, notes):
        """Be in the state with these notes by a deed, and tell the news."""
        return self._turn(State(self.market, notes, self.number, self.bought, self.loss, self.spent))

    @property
    def left(self):
        """The market without the lost parts."""
        return self._state.rest

    @property
    def now(self):
        """The notes in which the kept parts cost nothing."""
        return self._state.shown

    @property
    def short(self):
        """Whether the market left has no stock of the wanted size."""
        return self._state.lacks

    @property
    def wanted(self):
        """The wanted size."""
        return self.number

    @wanted.setter
    def wanted(self, value):
        raise FixedWanted()

    def ask(self, part, price):
        """The part is seen at the price."""
        check_not_bought(self, part)
        return self._told(self.notes.ask(part, price))

    def narrow(self, part, low, high):
        """The part gets a stretch inside its old one."""
        check_not_bought(self, part)
        return self._told(self.notes.narrow(part, low, high))

    def lose(self, part):
        """The part is lost."""
        check_held(self, part)
        lost = both(self.loss, (part,))
        return self._turn(State(self.market, self.notes, self.number, self.bought, lost, self.spent))

    def find(self, part):
        """The part is lost no longer."""
        check_part(self.market, part)
        if part not in self.loss:
            raise NotLost(part)
        lost = minus(self.loss, (part,))
        return self._turn(State(self.market, self.notes, self.number, self.bought, lost, self.spent))

    def buy(self, part, price):
        """The part is asked at the price, and paid for."""
        check_held(self, part)
        check_not_bought(self, part)
        notes = self.notes.ask(part, price)
        paid = both(self.bought, (part,))
        return self._turn(State(self.market, notes, self.number, paid, self.loss, self.spent + price))

    def want(self, number):
        """The wanted size is another one."""
        check_count("number", number)
        return self._turn(State(self.market, self.notes, number, self.bought, self.loss, self.spent))

    def offer(self, run, low, high):
        """The market gets one part more, with a stretch."""
        offered = check_run(self.market, run)
        notes = self.notes.and_stretch(low, high)
        market = self.market.and_run(offered)
        return self._turn(State(market, notes, self.number, self.bought, self.loss, self.spent))

    def back(self):
        """Take the last deed back, and tell the parts whose verdict changes by it."""
        if not self._past:
            raise NothingBack()
        before = self._state
        state = self._past[-1]
        self._past = self._past[:-1]
        self._take(state)
        return news_between(before, state)

    def verdict(self, part):
        """The verdict of the part."""
        check_part(self.market, part)
        check_told(self._state)
        return self._state.verdicts[part]

    def unsettled(self):
        """The set of the parts that are unsettled."""
        check_told(self._state)
        return self._state.doubtful

    def sure_stock(self):
        """A safe stock of the desk, None if there is none."""
        return None if self.short else safe_stock(self.left, self.number, self.now)

    def pay_ends(self):
        """What a cheapest stock costs at least and at most, (None, None) if the desk is short."""
        return (None, None) if self.short else price_ends(self.left, self.number, self.now)

    def next_ends(self):
        """What one more costs at least and at most beside a safe stock, None if there is no safe stock."""
        stock = self.sure_stock()
        if stock is None:
            return None
        return next_price(self, self.now.high_on(stock), stock), next_price(self, self.now.low_on(stock), stock)

    def regret_of(self, stock):
        """By how much the stock is too dear at most."""
        return regret(self.left, self.number, self.now, stock)

    def losses_left(self):
        """How many losses the market left bears."""
        return strength(self.left) - 1

    def finish(self, world):
        """Ask parts at their prices in the world until there is a safe stock; the tuple of these parts."""
        prices = world_of(self.market, world)
        if self.short:
            raise NoStock()
        check_agrees(self.notes, prices)
        check_few(self.left)
        asked = []
        while self.sure_stock() is None:
            part = min([part for part in self.unsettled() if not self.now.is_seen(part)])
            self.ask(part, prices[part])
            asked.append(part)
        return tuple(asked)

    def __len__(self):
        return len(self._past)

    def __iter__(self):
        return iter(self._state.doubtful)

    def __contains__(self, x):
        if not is_within(x, 0, len(self.market.runs) - 1):
            return False
        check_told(self._state)
        return self._state.verdicts[x] not in ("gone", "lost", "out")


def next_price(desk, prices, stock):
    """What one more costs in a world in which the stock is cheapest, an amount."""
    wanted = demand_of(desk.left, desk.number)
    walk = cheapest_walk(desk.left, wanted, prices, stock, (0, desk.left.size))
    return None if walk is None else walk[0]


def check_not_bought(desk, part):
    """Raise BadPart or IsBought if the part cannot be asked."""
    check_part(desk.market, part)
    if part in desk.bought:
        raise IsBought(part)


def check_held(desk, part):
    """Raise BadPart, IsGone or IsLost if the part is not there."""
    part_there(desk.market, part)
    if part in desk.loss:
        raise IsLost(part)
