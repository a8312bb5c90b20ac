"""Sets of parts: tuples of different part numbers in ascending order."""

from keptparts.checks import is_count, is_row, is_within
from keptparts.errors import BadNumber, BadSet


def set_of(many, parts):
    """The set of the numbers in parts, each from 0 to many - 1."""
    if not is_count(many):
        raise BadNumber("many")
    if not is_row(parts):
        raise BadSet(-1)
    seen = set()
    for place, part in enumerate(parts):
        if not is_within(part, 0, many - 1) or part in seen:
            raise BadSet(place)
        seen.add(part)
    return tuple(sorted(seen))


def both(one, other):
    """The set one + other."""
    return tuple(sorted(set(one) | set(other)))


def common(one, other):
    """The set one & other."""
    return tuple(sorted(set(one) & set(other)))


def minus(one, other):
    """The set one - other."""
    return tuple(sorted(set(one) - set(other)))


def subsets(parts):
    """Yield all subsets of a set, first by size, then in ascending order."""
    for size in range(len(parts) + 1):
        places = list(range(size))
        while places is not None:
            yield tuple([parts[place] for place in places])
            places = next_places(places, len(parts))


def next_places(places, many):
    """The ascending row of places below many that comes next, None after the last one."""
    size = len(places)
    for k in range(size - 1, -1, -1):
        if places[k] < many - size + k:
            first = places[k] + 1
            return places[:k] + list(range(first, first + size - k))
    return None
