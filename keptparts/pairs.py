"""Pairs of parts of a join market: with one another, against one another, mixed or apart."""

from keptparts.checks import is_whole, point_pair
from keptparts.covers import covered, demand_of
from keptparts.errors import BadNumber, BadPoint, SamePart
from keptparts.markets import check_join, part_there
from keptparts.rings import check_few
from keptparts.sets import both, common, minus
from keptparts.steps import move_of, turned_back
from keptparts.stocks import any_stock, check_has_stock


def with_ring(market, demand, one, other):
    """A stock and the move of a ring of it with both parts as outs, None if there is none."""
    wanted = two_parts(market, demand, one, other)
    check_searchable(market, wanted)
    return ring_over(market, wanted, (one, other), ())


def against_ring(market, demand, one, other):
    """A stock and the move of a ring of it with one part as an out and the other as an in."""
    wanted = two_parts(market, demand, one, other)
    check_searchable(market, wanted)
    return ring_over(market, wanted, (one,), (other,))


def sort_of(market, demand, one, other):
    """Whether the two parts are "with" or "against" one another, "mixed" or "apart"."""
    wanted = two_parts(market, demand, one, other)
    check_searchable(market, wanted)
    allies, rivals = partners(moves_of_stocks(market, wanted), one)
    if other in allies:
        return "mixed" if other in rivals else "with"
    return "against" if other in rivals else "apart"


def with_parts(market, demand, part):
    """The set of the parts that are with the part."""
    return partners_of(market, demand, part)[0]


def against_parts(market, demand, part):
    """The set of the parts that are against the part."""
    return partners_of(market, demand, part)[1]


def mixed_partner(market, demand, part):
    """The least part that is mixed with the part, None if there is none."""
    allies, rivals = partners_of(market, demand, part)
    return min(common(allies, rivals), default=None)


def walk_over(market, demand, run, part, sign):
    """A stock and the move of a walk of it that has the part as an out (sign -1) or as an in (sign 1)."""
    check_join(market)
    wanted = demand_of(market, demand)
    first, last = point_pair(market, run)
    if first == last:
        raise BadPoint(last)
    part_there(market, part)
    if not is_whole(sign) or sign not in (-1, 1):
        raise BadNumber("sign")
    check_searchable(market, wanted)
    for row in part_rows(market, first, last, 0):
        outs, ins = move_of(row)
        if part in (outs if sign < 0 else ins):
            stock = stock_with(market, wanted, outs, ins)
            if stock is not None:
                return stock, outs, ins
    return None


def two_parts(market, demand, one, other):
    """The demand, checked together with two different parts of a join market."""
    check_join(market)
    wanted = demand_of(market, demand)
    part_there(market, one)
    part_there(market, other)
    if one == other:
        raise SamePart(other)
    return wanted


def check_searchable(market, wanted):
    """Raise NoStock if the demand has no stock, then TooMany if more parts are there than can be gone through."""
    check_has_stock(market, wanted)
    check_few(market)


def partners_of(market, demand, part):
    """The sets of the parts with and against the part, from arguments that are checked here."""
    check_join(market)
    wanted = demand_of(market, demand)
    part_there(market, part)
    check_searchable(market, wanted)
    return partners(moves_of_stocks(market, wanted), part)


def partners(moves, part):
    """The sets of the parts that are on the part's side, and on the other one, of some of the moves."""
    allies = ()
    rivals = ()
    for outs, ins in moves:
        if part in outs:
            allies, rivals = both(allies, outs), both(rivals, ins)
        elif part in ins:
            allies, rivals = both(allies, ins), both(rivals, outs)
    return minus(allies, (part,)), rivals


def ring_over(market, wanted, told_outs, told_ins):
    """A stock and the move of a ring of it with these outs and these ins, None if there is none."""
    for move in round_moves(market):
        for outs, ins in (move, turned_back(move)):
            if has_all(outs, told_outs) and has_all(ins, told_ins):
                stock = stock_with(market, wanted, outs, ins)
                if stock is not None:
                    return stock, outs, ins
    return None


def has_all(chosen, told):
    """Whether all told parts are in a set of parts."""
    return all([part in chosen for part in told])


def moves_of_stocks(market, wanted):
    """The moves of all rings of stocks of the demand, each ring in one direction."""
    return [move for move in round_moves(market) if stock_with(market, wanted, move[0], move[1]) is not None]


def stock_with(market, wanted, outs, ins):
    """A stock that has the outs and none of the ins of a move, None if there is none."""
    rest = market.lose(both(outs, ins))
    needs = [number - count for number, count in zip(wanted, covered(market, outs))]
    found = any_stock(rest, tuple(needs))
    return None if found is None else both(found, outs)


def round_moves(market):
    """The moves of all closed rows over parts that meet no point twice, each row in one direction."""
    moves = []
    for start in range(market.size + 1):
        for row in part_rows(market, start, start, start):
            if row[0][2] < row[-1][2]:
                moves.append(move_of(row))
    return moves


def part_rows(market, first, last, lowest):
    """All rows of steps over parts between two points, which may be the same.

    They go over no part twice, and meet no point twice and none below the lowest.
    """
    steps = []
    for part in market.there():
        begin, end = market.runs[part]
        steps.append((begin, end, part))
        steps.append((end, begin, part))
    rows = []
    waiting = [()]
    while waiting:
        row = waiting.pop()
        point = row[-1][1] if row else first
        met = [first] + [step[1] for step in row]
        used = [step[2] for step in row]
        for start, goal, part in steps:
            if start != point or part in used:
                continue
            longer = row + ((start, goal, part),)
            if goal == last:
                rows.append(longer)
            elif goal >= lowest and goal not in met:
                waiting.append(longer)
    return rows
