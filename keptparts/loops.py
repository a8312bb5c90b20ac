"""Rows of steps that close: whether steps form one, and steps split into such rows."""

from keptparts.markets import is_lap


def forms_ring(market, free, arcs):
    """Whether the arcs (from, to) are one closed row that meets no point twice.

    In a lap market bare steps fill the gaps: to the left anywhere, to the right over the
    free places only.
    """
    if not arcs:
        return False
    after = [None] * (market.size + 1)
    entered = [False] * (market.size + 1)
    for start, end in arcs:
        if after[start] is not None or entered[end]:
            return False
        after[start] = end
        entered[end] = True
    links = bare_links(market, free, after, entered)
    if links is None:
        return False
    for start, end in links:
        after[start] = end
    return is_one_round(after, arcs[0][0], len(arcs) + len(links))


def bare_links(market, free, after, entered):
    """The rows of bare steps that close the gaps, as pairs (from, to); None if they cannot.

    Rows of bare steps meet neither one another nor a point that is used already. So each
    leads from an open point to an open point next to it, and which ones is settled from
    the left.
    """
    links = []
    waiting = None
    for point in range(market.size + 1):
        leaves = after[point] is not None
        if entered[point] == leaves:
            if leaves and waiting is not None:
                return None
        elif waiting is None:
            waiting = point
        elif not can_link(market, free, entered, waiting, point):
            return None
        else:
            links.append((waiting, point) if entered[waiting] else (point, waiting))
            waiting = None
    return links if waiting is None else None


def can_link(market, free, entered, left, right):
    """Whether bare steps lead between two open points, from the entered one to the other."""
    if not is_lap(market) or entered[left] == entered[right]:
        return False
    return entered[right] or all([place in free for place in range(left, right)])


def is_one_round(after, start, many):
    """Whether one is back at the start after many steps, and not before."""
    point = after[start]
    count = 1
    while point != start:
        point = after[point]
        count += 1
    return count == many


def closed_rows(points, steps):
    """Split steps into rows that close and meet no point twice.

    At each point as many of the steps must begin as end.
    """
    waiting = [[] for _ in range(points)]
    for step in steps:
        waiting[step[0]].append(step)
    rows = []
    for start in range(points):
        row = []
        met = [start]
        while row or waiting[start]:
            step = waiting[met[-1]].pop()
            row.append(step)
            if step[1] in met:
                first = met.index(step[1])
                rows.append(row[first:])
                row = row[:first]
                met = met[:first + 1]
            else:
                met.append(step[1])
    return rows
