"""Further losses, and rises of several prices at once."""

from keptparts.amounts import plus
from keptparts.checks import first_wrong
from keptparts.cheapest import least_price
from keptparts.covers import check_stock, demand_of
from keptparts.errors import BadPart, BadSet, SamePart
from keptparts.losing import Losing, lost_parts, price_without
from keptparts.markets import check_join, part_there
from keptparts.pairs import check_searchable, moves_of_stocks, partners
from keptparts.sets import both, common, set_of
from keptparts.stocks import check_has_stock
from keptparts.walks import lowering_ring, world_of


def losses_of_two(market, demand, world, one, other):
    """What the loss of one part, of another one, and of both costs."""
    wanted = demand_of(market, demand)
    prices = world_of(market, world)
    part_there(market, one)
    part_there(market, other)
    if one == other:
        raise SamePart(other)
    losing = Losing(market, wanted, prices)
    return losing.loss_of(one), losing.loss_of(other), price_without(losing, (one, other))


def lot_sorts(market, demand, parts):
    """Whether some two of the parts are with one another, and whether some two are against one another."""
    check_join(market)
    wanted = demand_of(market, demand)
    lot = lost_parts(market, parts)
    check_searchable(market, wanted)
    moves = moves_of_stocks(market, wanted)
    sides = [partners(moves, part) for part in lot]
    any_with = any([common(allies, lot) != () for allies, _ in sides])
    any_against = any([common(rivals, lot) != () for _, rivals in sides])
    return any_with, any_against


def bears_rises(market, demand, world, stock, rises):
    """Whether the stock is cheapest when each price is greater by its rise."""
    wanted = demand_of(market, demand)
    prices = world_of(market, world)
    chosen = set_of(market.many, stock)
    by = world_of(market, rises)
    check_stock(market, wanted, chosen)
    risen = [price + rise for price, rise in zip(prices, by)]
    return lowering_ring(market, wanted, risen, chosen) is None


def second_difference(market, demand, world, less, more, part):
    """Two sums of least prices: the part is lost behind the greater loss, and behind the lesser one."""
    wanted = demand_of(market, demand)
    prices = world_of(market, world)
    few = lost_parts(market, less)
    many = lost_parts(market, more)
    part_there(market, part)
    check_has_stock(market, wanted)
    place = first_wrong([lost in many for lost in less])
    if place is not None:
        raise BadSet(place)
    if part in many:
        raise BadPart(part)
    costs = [least_price(market.lose(lost), wanted, prices)
             for lost in (both(many, (part,)), few, both(few, (part,)), many)]
    return plus(costs[0], costs[1]), plus(costs[2], costs[3])
