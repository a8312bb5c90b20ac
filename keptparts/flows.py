"""Least prices of reaching points, and stocks built up row of steps by row of steps."""

from keptparts.covers import begins_of
from keptparts.markets import is_lap
from keptparts.steps import BARE, behind, move_of, steps_from


def priced(steps, world):
    """The steps as (from, to, part, price): an in costs, an out saves, a bare step is free."""
    return [(start, end, part, price_of_step(start, end, part, world)) for start, end, part in steps]


def price_of_step(start, end, part, world):
    """The price of one step."""
    if part == BARE:
        return 0
    return world[part] if start < end else -world[part]


def spread(points, arcs, starts):
    """The least prices of reaching each point from one of the starts, None if there is no way.

    The answer is (prices, last, lowered). last has the arc by which each point was reached.
    lowered is None if all is settled; otherwise it is a point from which last leads back to
    a round with a price below 0.
    """
    prices = [None] * points
    last = [None] * points
    for point in starts:
        prices[point] = 0
    for _ in range(points):
        lowered = None
        for arc in arcs:
            start, end, _, price = arc
            if prices[start] is None:
                continue
            reached = prices[start] + price
            if prices[end] is None or reached < prices[end]:
                prices[end] = reached
                last[end] = arc
                lowered = end
        if lowered is None:
            return prices, last, None
    return prices, last, lowered


def row_to(last, point):
    """The arcs by which a point was reached, the last one first."""
    row = []
    while last[point] is not None:
        row.append(last[point])
        point = last[point][0]
    return row


def round_before(last, lowered):
    """The arcs of the round that last leads back to."""
    point = lowered
    for _ in range(len(last)):
        point = last[point][0]
    row = [last[point]]
    while row[-1][0] != point:
        row.append(last[row[-1][0]])
    return row


def reached_points(points, steps, starts):
    """The ascending tuple of the points that steps lead to from the starts, these included."""
    reached = [False] * points
    waiting = list(starts)
    for point in starts:
        reached[point] = True
    while waiting:
        point = waiting.pop()
        for step in steps:
            if step[0] == point and not reached[step[1]]:
                reached[step[1]] = True
                waiting.append(step[1])
    return tuple([point for point in range(points) if reached[point]])


def carried(market, needs, spare, world):
    """Carry as much as can be from points with needs above 0 to points with needs below 0.

    Each time a cheapest row of steps is taken, so the parts chosen stay as cheap as can be
    for what is carried. spare tells how many bare steps to the right each place bears. The
    answer is (chosen, needs): the parts, and what is left of the needs.
    """
    needs = list(needs)
    spare = list(spare)
    chosen = ()
    row = row_between(market, needs, spare, chosen, world)
    while row:
        needs[row[-1][0]] -= 1
        needs[row[0][1]] += 1
        for start, end, part, _ in row:
            if part == BARE and start > end:
                spare[end] += 1
            elif part == BARE:
                spare[start] -= 1
        outs, ins = move_of(row)
        chosen = behind(chosen, outs, ins)
        row = row_between(market, needs, spare, chosen, world)
    return chosen, needs


def row_between(market, needs, spare, chosen, world):
    """A cheapest row of steps from a point with needs above 0 to one below 0, the last first."""
    points = market.size + 1
    free = [place for place in range(market.size) if spare[place] > 0]
    starts = [point for point in range(points) if needs[point] > 0]
    prices, last, _ = spread(points, priced(steps_from(market, chosen, free), world), starts)
    goals = [(prices[point], point) for point in range(points) if needs[point] < 0 and prices[point] is not None]
    if not goals:
        return []
    return row_to(last, min(goals)[1])


def cheapest_of(market, wanted, world):
    """A cheapest stock of a demand, None if there is no stock; not checked."""
    bottom = wanted
    level = wanted
    if is_lap(market):
        bottom = [max(0, number) for number in wanted]
        level = filled(bottom)
    spare = [high - low for high, low in zip(level, bottom)]
    chosen, needs = carried(market, begins_of(level), spare, world)
    if any([need != 0 for need in needs]):
        return None
    return chosen


def filled(row):
    """The row with its dips filled up, as by water.

    What a lap market covers too often over a dip costs nothing, so one may begin there.
    """
    return [min(max(row[:place + 1]), max(row[place:])) for place in range(len(row))]
