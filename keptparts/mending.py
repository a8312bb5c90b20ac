"""Mending: what is bought behind a loss, beside the parts of a stock that are kept."""

from keptparts.cheapest import least_price
from keptparts.covers import changed, check_stock, demand_of
from keptparts.differences import split_rings
from keptparts.errors import BadPart
from keptparts.flows import cheapest_of
from keptparts.heights import heights_for
from keptparts.losing import lost_parts
from keptparts.markets import part_there
from keptparts.notes import check_notes
from keptparts.sets import both, common, minus, set_of
from keptparts.steps import behind
from keptparts.walks import cheapest_walk, price_in, world_of


def mend_price(market, demand, world, stock, loss):
    """The least price of what must be bought to hold a stock behind the loss, an amount."""
    wanted, prices, chosen, lost = mending_case(market, demand, world, stock, loss)
    return least_price(market.lose(lost), wanted, freed(prices, minus(chosen, lost)))


def mend_rings(market, demand, world, stock, loss):
    """Rings of the stock, each with a lost part among its outs, that lead to a mending of least price."""
    wanted, prices, chosen, lost = mending_case(market, demand, world, stock, loss)
    target = cheapest_of(market.lose(lost), wanted, freed(prices, minus(chosen, lost)))
    if target is None:
        return None
    # The other rings give up parts that are kept and cost nothing: without them it is no dearer.
    moves = split_rings(market, wanted, chosen, target)
    return [move for move in moves if common(move[0], lost) != ()]


def mend(market, demand, world, stock, loss):
    """A stock of least price behind the loss that comes from the stock by rings with lost parts."""
    moves = mend_rings(market, demand, world, stock, loss)
    if moves is None:
        return None
    mended = set_of(market.many, stock)
    for outs, ins in moves:
        mended = behind(mended, outs, ins)
    return mended


def mend_heights(market, demand, world, stock, loss):
    """Heights whose value is the least price of mending, None if the loss cannot be mended."""
    wanted, prices, chosen, lost = mending_case(market, demand, world, stock, loss)
    rest = market.lose(lost)
    costs = freed(prices, minus(chosen, lost))
    target = cheapest_of(rest, wanted, costs)
    if target is None:
        return None
    return heights_for(rest, wanted, costs, target)


def mend_notes(market, notes, stock, loss):
    """The notes in which the parts of the stock that are not lost cost nothing."""
    chosen = set_of(market.many, stock)
    lost = lost_parts(market, loss)
    check_notes(market, notes)
    return notes.kept_free(minus(chosen, lost))


def mend_one(market, demand, world, stock, part):
    """The price and the move of a cheapest walk that mends the loss of one part, None if there is none."""
    wanted = demand_of(market, demand)
    prices = world_of(market, world)
    chosen = set_of(market.many, stock)
    part_there(market, part)
    check_stock(market, wanted, chosen)
    if part not in chosen:
        raise BadPart(part)
    run = market.runs[part]
    less = changed(market, wanted, run, -1)
    return cheapest_walk(market.lose((part,)), less, freed(prices, chosen), minus(chosen, (part,)), run)


def mend_in_turn(market, demand, world, stock, row):
    """The payments when the parts of the row are lost one after the other, None once it cannot be mended."""
    wanted, prices, chosen, _ = mending_case(market, demand, world, stock, row)
    rest = market
    had = chosen
    payments = []
    for part in row:
        rest = rest.lose((part,))
        if had is not None and part in had:
            had = minus(had, (part,))
            bought = missing_parts(rest, wanted, prices, had)
            payments.append(None if bought is None else price_in(prices, bought))
            had = None if bought is None else both(had, bought)
        else:
            payments.append(None if had is None else 0)
    return payments


def missing_parts(market, wanted, prices, had):
    """The parts of least price that must be bought so that what is had then holds a stock, None if it cannot."""
    target = cheapest_of(market, wanted, freed(prices, had))
    return None if target is None else minus(target, had)


def mending_case(market, demand, world, stock, loss):
    """The demand, the prices, the stock and the lost parts, all of them checked."""
    wanted = demand_of(market, demand)
    prices = world_of(market, world)
    chosen = set_of(market.many, stock)
    lost = lost_parts(market, loss)
    return wanted, prices, check_stock(market, wanted, chosen), lost


def freed(prices, parts):
    """The world in which these parts cost nothing."""
    return tuple([0 if part in parts else price for part, price in enumerate(prices)])
