"""Questions about the form of arguments that several modules ask."""

from keptparts.errors import BadPoint, BadWorld


def is_whole(value):
    """Whether the value is an integer; True and False are none."""
    return isinstance(value, int) and not isinstance(value, bool)


def is_within(value, low, high):
    """Whether the value is an integer from low to high."""
    return is_whole(value) and low <= value <= high


def is_count(value):
    """Whether the value is an integer of at least 0."""
    return is_whole(value) and value >= 0


def is_row(value):
    """Whether the value is a tuple or a list."""
    return isinstance(value, (tuple, list))


def is_pair(value):
    """Whether the value is a tuple or list of two items."""
    return is_row(value) and len(value) == 2


def is_run(size, run):
    """Whether the value is a run over a row of that size."""
    if not is_pair(run):
        return False
    return is_within(run[0], 0, size) and is_within(run[1], 0, size) and run[0] < run[1]


def is_any_run(run):
    """Whether the value is a run over some row, however long."""
    return is_pair(run) and is_count(run[0]) and is_count(run[1]) and run[0] < run[1]


def first_wrong(flags):
    """The least index at which there is a False, None if there is none."""
    for place, flag in enumerate(flags):
        if not flag:
            return place
    return None


def point_pair(market, run):
    """The two points of a pair, in any order, as a tuple."""
    if not is_pair(run):
        raise BadPoint(run)
    for point in run:
        if not is_within(point, 0, market.size):
            raise BadPoint(point)
    return tuple(run)


def prices_of(many, world):
    """A world of that many parts as a tuple of prices."""
    if not is_row(world) or len(world) != many:
        raise BadWorld(-1)
    place = first_wrong([is_count(price) for price in world])
    if place is not None:
        raise BadWorld(place)
    return tuple(world)
