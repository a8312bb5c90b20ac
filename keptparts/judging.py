"""The two worlds by which a part can be judged ahead, and markets in which this is so for all parts."""

from keptparts.covers import demand_of
from keptparts.critical import check_loose
from keptparts.errors import Mixed
from keptparts.markets import check_join, part_there
from keptparts.notes import check_notes
from keptparts.pairs import check_searchable, moves_of_stocks, partners
from keptparts.rings import check_few
from keptparts.sets import common


def judge_worlds(market, demand, notes, part):
    """The agreeing worlds in which the critical price of the part is least and greatest."""
    check_join(market)
    wanted = demand_of(market, demand)
    part_there(market, part)
    check_notes(market, notes)
    check_loose(market, wanted, part)
    check_few(market)
    allies, rivals = partners(moves_of_stocks(market, wanted), part)
    for other in common(allies, rivals):
        if not notes.is_seen(other):
            raise Mixed(other)
    return notes.high_on(allies), notes.high_on(rivals)


def steady(market, demand):
    """Whether no two parts are mixed."""
    check_join(market)
    wanted = demand_of(market, demand)
    check_searchable(market, wanted)
    moves = moves_of_stocks(market, wanted)
    sides = [partners(moves, part) for part in market.there()]
    return all([common(allies, rivals) == () for allies, rivals in sides])
