"""Strength, cuts and lacks; firm, dead and loose parts; blows."""

from keptparts.checks import is_count, is_row, is_within
from keptparts.covers import begins_of, covered, demand_of
from keptparts.errors import BadNumber, BadPoint, NoStock
from keptparts.flows import carried, reached_points
from keptparts.markets import is_lap, part_there
from keptparts.steps import steps_from
from keptparts.stocks import any_stock


def strength(market):
    """The greatest k for which the market has a k-stock."""
    if is_lap(market):
        return min(covered(market, market.there()))
    return covered(market, greatest_stock(market))[0]


def greatest_stock(market):
    """For a join market: a stock of the greatest size."""
    most = len(market.there()) + 1
    needs = [most] + [0] * (market.size - 1) + [-most]
    chosen, _ = carried(market, needs, [0] * market.size, [0] * market.many)
    return chosen


def least_cut(market):
    """An ascending tuple of points that as few parts leave, or cover, as the strength tells."""
    if is_lap(market):
        counts = covered(market, market.there())
        return points_up_to(counts.index(min(counts)))
    chosen = greatest_stock(market)
    return reached_points(market.size + 1, steps_from(market, chosen, ()), [0])


def points_up_to(place):
    """The points from 0 to the left end of a place."""
    return tuple(range(place + 1))


def point_flags(market, points):
    """For each point of the row whether it is in a set of points."""
    if not is_row(points):
        raise BadPoint(points)
    flags = [False] * (market.size + 1)
    for point in points:
        if not is_within(point, 0, market.size) or flags[point]:
            raise BadPoint(point)
        flags[point] = True
    return flags


def leaving(market, points):
    """The set of the parts that leave the set of points."""
    flags = point_flags(market, points)
    ends = [(part, market.runs[part]) for part in market.there()]
    return tuple([part for part, (begin, end) in ends if flags[begin] and not flags[end]])


def entering(market, points):
    """The set of the parts that enter the set of points."""
    flags = point_flags(market, points)
    ends = [(part, market.runs[part]) for part in market.there()]
    return tuple([part for part, (begin, end) in ends if flags[end] and not flags[begin]])


def outflow(market, demand, points):
    """The sum of begins of the demand over the set of points."""
    wanted = demand_of(market, demand)
    flags = point_flags(market, points)
    return sum([number for number, flag in zip(begins_of(wanted), flags) if flag])


def bears(market, losses):
    """Whether the market bears that many losses."""
    if not is_count(losses):
        raise BadNumber("losses")
    return strength(market) >= losses + 1


def lacking(market, demand):
    """A set of points that shows that the demand has no stock, None if it has one."""
    wanted = demand_of(market, demand)
    if is_lap(market):
        counts = covered(market, market.there())
        short = [place for place in range(market.size) if counts[place] < wanted[place]]
        return points_up_to(short[0]) if short else None
    chosen, needs = carried(market, begins_of(wanted), [0] * market.size, [0] * market.many)
    starts = [point for point in range(market.size + 1) if needs[point] > 0]
    if not starts:
        return None
    return reached_points(market.size + 1, steps_from(market, chosen, ()), starts)


def state_of(market, demand, part):
    """Whether the part is "firm", "dead" or "loose" at the demand."""
    stock, points = stock_and_barrier(market, demand, part)
    if points is None:
        return "loose"
    return "firm" if part in stock else "dead"


def full_points(market, demand, part):
    """A full set of points for a firm or dead part, None for a loose one."""
    return stock_and_barrier(market, demand, part)[1]


def stock_and_barrier(market, demand, part):
    """Some stock, and a full set of points if the part is firm or dead, otherwise None."""
    wanted = demand_of(market, demand)
    part_there(market, part)
    stock = any_stock(market, wanted)
    if stock is None:
        raise NoStock()
    begin, end = market.runs[part]
    if is_lap(market):
        counts = covered(market, stock)
        tight = [place for place in range(begin, end) if counts[place] == wanted[place]]
        return stock, points_up_to(tight[0]) if tight else None
    # The part is loose exactly if the steps lead back from where its own step would lead.
    start, goal = (begin, end) if part in stock else (end, begin)
    points = reached_points(market.size + 1, steps_from(market, stock, ()), [start])
    return stock, None if goal in points else points


def blow_at(market, number):
    """A blow at number with as few parts as possible."""
    greatest = strength(market)
    if not is_within(number, 1, greatest):
        raise BadNumber("number")
    # In a lap market the parts that leave 0 .. j are those over the place j.
    return leaving(market, least_cut(market))[:greatest - number + 1]
