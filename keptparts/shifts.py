"""How a cheapest stock changes when the price of one part becomes another one."""

from keptparts.sets import both
from keptparts.walks import cheapest_walk


def ring_after(market, wanted, prices, chosen, part, price):
    """A ring behind which a cheapest stock is cheapest when the part has the price.

    None if the stock stays cheapest. Nothing is checked; the part must not be gone. Only the
    rings over this part change their price, so one of least price leads to a cheapest stock.
    """
    begin, end = market.runs[part]
    if part in chosen:
        walk = cheapest_walk(market, wanted, prices, chosen, (begin, end))
        if walk is None or price <= walk[0]:
            return None
        outs, ins = walk[1]
        return both(outs, (part,)), ins
    walk = cheapest_walk(market, wanted, prices, chosen, (end, begin))
    if walk is None or price + walk[0] >= 0:
        return None
    outs, ins = walk[1]
    return outs, both(ins, (part,))
