"""Buying way after way, for the kind join."""

from keptparts.budgets import size_prices
from keptparts.covers import demand_of
from keptparts.flows import cheapest_of
from keptparts.markets import check_join
from keptparts.sets import both
from keptparts.waiting import check_count
from keptparts.walks import price_in, world_of


class Buying:
    """A run of purchases: each one is a cheapest way of the parts that are left."""

    def __init__(self, market, world):
        check_join(market)
        self.market = market
        self.world = world_of(market, world)
        self.ways = ()
        self.bought = ()
        self.spent = 0
        self._coming = next_way(market, self.world, ())

    @property
    def stopped(self):
        """Whether no way is left."""
        return self._coming is None

    def buy(self):
        """Buy a cheapest way and return it, None if there is none."""
        way = self._coming
        if way is None:
            return None
        self.ways = self.ways + (way,)
        self.bought = both(self.bought, way)
        self.spent = self.spent + price_in(self.world, way)
        self._coming = next_way(self.market, self.world, self.bought)
        return way

    def buy_many(self, number):
        """Buy so many ways, or as many as there are, and return the list of them."""
        check_count("number", number)
        now = []
        while len(now) < number and self._coming is not None:
            now.append(self.buy())
        return now

    def __len__(self):
        return len(self.ways)

    def __iter__(self):
        return iter(self.ways)


def next_way(market, prices, bought):
    """A cheapest way of the parts that are not bought, None if there is none."""
    return cheapest_of(market.lose(bought), demand_of(market, 1), prices)


def right_up_to(market, world, number):
    """How many purchases, at most the number, cost together what cheapest stocks of their sizes cost."""
    check_join(market)
    prices = world_of(market, world)
    check_count("number", number)
    run = Buying(market, prices)
    right = 0
    for cost in size_prices(market, prices)[1:number + 1]:
        if run.buy() is None or run.spent != cost:
            break
        right += 1
    return right
