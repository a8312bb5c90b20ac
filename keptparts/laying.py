"""How runs are folded: threads laid end to end at a point, and beside one another."""

from keptparts.threads import Beside, EndToEnd, Single


def laid(runs, backwards):
    """Fold useful runs at the least point each time, or at the greatest one, until none is left.

    The answer is (points, threads): the folded points in their order, and the threads that are
    left by their pairs of points.
    """
    threads = {run: Single(run) for run in runs}
    folded = []
    points = folding_points(threads)
    while points:
        point = points[-1] if backwards else points[0]
        fold_at(threads, point)
        folded.append(point)
        points = folding_points(threads)
    return tuple(folded), threads


def folding_points(threads):
    """The ascending points at which just one thread ends and just one begins."""
    begins = [begin for begin, _ in threads]
    ends = [end for _, end in threads]
    return [point for point in sorted(set(ends)) if ends.count(point) == 1 and begins.count(point) == 1]


def fold_at(threads, point):
    """Lay the two threads that meet at a point end to end, and beside another one between their points."""
    before = [pair for pair in threads if pair[1] == point][0]
    after = [pair for pair in threads if pair[0] == point][0]
    longer = EndToEnd(threads.pop(before), threads.pop(after))
    pair = (before[0], after[1])
    threads[pair] = Beside(threads[pair], longer) if pair in threads else longer
