"""Losses: by how much a cheapest stock gets dearer when parts are lost."""

from keptparts.amounts import gap
from keptparts.cheapest import least_price, needed_stock
from keptparts.covers import demand_of
from keptparts.markets import check_there, part_there
from keptparts.sets import set_of
from keptparts.tables import Table
from keptparts.walks import price_in, world_of


class Losing:
    """Tells what losses cost, for one demand and one world."""

    def __init__(self, market, demand, world):
        self.market = market
        self.demand = demand_of(market, demand)
        self.world = world_of(market, world)
        self.price = price_in(self.world, needed_stock(market, self.demand, self.world))

    def __call__(self, loss):
        return price_without(self, lost_parts(self.market, loss))

    def loss_of(self, part):
        """What the loss of this one part costs, an amount."""
        return price_without(self, (part_there(self.market, part),))


def price_without(losing, lost):
    """By how much the least price rises when the parts are lost, an amount."""
    rest = losing.market.lose(lost)
    return gap(least_price(rest, losing.demand, losing.world), losing.price)


def lost_parts(market, loss):
    """The set of the parts of a loss, none of which may be gone already."""
    lost = set_of(market.many, loss)
    check_there(market, lost)
    return lost


def by_tables(market, demand, world):
    """What the loss of each single part costs, from what one cover more over its run costs."""
    table = Table(market, demand, world)
    losses = [0] * market.many
    for part in table.stock:
        losses[part] = gap(table.more(market.runs[part]), table.world[part])
    return tuple(losses)
