"""Markets: a row, a kind, and parts that may be gone."""

from keptparts.checks import first_wrong, is_row, is_run, is_whole, is_within
from keptparts.errors import BadNumber, BadPart, BadRun, IsGone, NotJoin
from keptparts.sets import both, minus, set_of

GREATEST_SIZE = 30


class Market:
    """What the markets of both kinds have in common."""

    KIND = ""

    def __init__(self, size, runs, *, gone=()):
        if not is_within(size, 1, GREATEST_SIZE):
            raise BadNumber("size")
        self.size = size
        self.runs = checked_runs(size, runs)
        self.gone = set_of(len(runs), gone)

    @property
    def many(self):
        """The number of the parts, gone ones included."""
        return len(self.runs)

    def there(self):
        """The set of the parts that are not gone."""
        return tuple([part for part in range(len(self.runs)) if part not in self.gone])

    def run_of(self, part):
        """The run of a part, gone or not."""
        check_part(self, part)
        return self.runs[part]

    def parts_over(self, run):
        """The set of the parts that are not gone and have this run."""
        wanted = check_run(self, run)
        return tuple([part for part in self.there() if self.runs[part] == wanted])

    def __len__(self):
        return len(self.runs)

    def __iter__(self):
        return iter(self.runs)

    def __contains__(self, x):
        return is_run(self.size, x) and tuple(x) in [self.runs[part] for part in self.there()]

    def __eq__(self, other):
        return (isinstance(other, Market) and self.KIND == other.KIND and self.size == other.size
                and self.runs == other.runs and self.gone == other.gone)


class Join(Market):
    """A market in which a stock covers each place exactly as often as demanded."""

    KIND = "join"

    def __init__(self, size, runs, *, gone=()):
        super().__init__(size, runs, gone=gone)

    def lose(self, parts):
        """The market with these parts gone too."""
        return Join(self.size, self.runs, gone=gone_after(self, parts))

    def keep(self, parts):
        """The market in which all parts but these are gone."""
        return Join(self.size, self.runs, gone=gone_but(self, parts))

    def and_run(self, run):
        """The market with one part more, which has the last number."""
        return Join(self.size, self.runs + (check_run(self, run),), gone=self.gone)

    def __sub__(self, other):
        # No call of lose: by its name alone it could be that of a desk, which changes the desk.
        return Join(self.size, self.runs, gone=gone_after(self, other))

    def __add__(self, other):
        size, runs, gone = end_to_end_shape(self, other)
        return Join(size, runs, gone=gone)

    def __or__(self, other):
        size, runs, gone = beside_shape(self, other)
        return Join(size, runs, gone=gone)

    def __invert__(self):
        return Join(self.size, turned_runs(self), gone=self.gone)

    def __mul__(self, other):
        runs, gone = repeated_parts(self, other)
        return Join(self.size, runs, gone=gone)


class Lap(Market):
    """A market in which a stock covers each place at least as often as demanded."""

    KIND = "lap"

    def __init__(self, size, runs, *, gone=()):
        super().__init__(size, runs, gone=gone)

    def lose(self, parts):
        """The market with these parts gone too."""
        return Lap(self.size, self.runs, gone=gone_after(self, parts))

    def keep(self, parts):
        """The market in which all parts but these are gone."""
        return Lap(self.size, self.runs, gone=gone_but(self, parts))

    def and_run(self, run):
        """The market with one part more, which has the last number."""
        return Lap(self.size, self.runs + (check_run(self, run),), gone=self.gone)

    def __sub__(self, other):
        # No call of lose: by its name alone it could be that of a desk, which changes the desk.
        return Lap(self.size, self.runs, gone=gone_after(self, other))

    def __add__(self, other):
        size, runs, gone = end_to_end_shape(self, other)
        return Lap(size, runs, gone=gone)

    def __or__(self, other):
        raise NotJoin()

    def __invert__(self):
        return Lap(self.size, turned_runs(self), gone=self.gone)

    def __mul__(self, other):
        runs, gone = repeated_parts(self, other)
        return Lap(self.size, runs, gone=gone)


def checked_runs(size, runs):
    """The runs as a tuple of tuples."""
    if not is_row(runs):
        raise BadRun(-1)
    place = first_wrong([is_run(size, run) for run in runs])
    if place is not None:
        raise BadRun(place)
    return tuple([tuple(run) for run in runs])


def gone_after(market, parts):
    """The gone parts of the market when these parts are lost too."""
    return both(market.gone, set_of(len(market.runs), parts))


def gone_but(market, parts):
    """The gone parts of the market when only these parts are kept."""
    kept = set_of(len(market.runs), parts)
    return both(market.gone, minus(market.there(), kept))


def end_to_end_shape(one, other):
    """Size, runs and gone parts of two markets of one kind laid end to end."""
    if one.KIND != other.KIND:
        raise NotJoin()
    moved_runs = [(begin + one.size, end + one.size) for begin, end in other.runs]
    return one.size + other.size, one.runs + tuple(moved_runs), joined_gone(one, other)


def beside_shape(one, other):
    """Size, runs and gone parts of two join markets laid beside one another."""
    check_join(other)
    size = one.size + other.size - 1
    shift = one.size - 1
    runs = [(begin, size if end == one.size else end) for begin, end in one.runs]
    for begin, end in other.runs:
        # The ends of the row stay; the inner points of the second row come behind those of the first.
        first = 0 if begin == 0 else begin + shift
        runs.append((first, end + shift))
    return size, runs, joined_gone(one, other)


def joined_gone(one, other):
    """The gone parts of two markets whose parts are numbered one after the other."""
    return one.gone + tuple([part + len(one.runs) for part in other.gone])


def turned_runs(market):
    """The runs of the market read from the right."""
    return [(market.size - end, market.size - begin) for begin, end in market.runs]


def repeated_parts(market, times):
    """Runs and gone parts of the market many times over."""
    check_times(times)
    many = len(market.runs)
    gone = [part + copy * many for part in market.gone for copy in range(times)]
    return market.runs * times, gone


def check_times(times):
    """Raise BadNumber if times is not an integer of at least 1."""
    if not is_whole(times) or times < 1:
        raise BadNumber("times")


def end_to_end(market, *rest):
    """The market and the others laid end to end, from left to right."""
    whole = market
    for other in rest:
        whole = whole + other
    return whole


def beside(market, *rest):
    """The market and the others laid beside one another, from left to right."""
    whole = market
    for other in rest:
        whole = whole | other
    return whole


def is_lap(market):
    """Whether the market is of the kind lap."""
    return market.KIND == "lap"


def check_join(market):
    """Raise NotJoin if the market is not of the kind join."""
    if market.KIND != "join":
        raise NotJoin()


def check_run(market, run):
    """The run as a tuple, if it is a run over the row."""
    if not is_run(market.size, run):
        raise BadRun(-1)
    return tuple(run)


def check_part(market, part):
    """Raise BadPart if the value is no part number of the market."""
    if not is_within(part, 0, len(market.runs) - 1):
        raise BadPart(part)


def part_there(market, part):
    """The part, if it is a part of the market and not gone."""
    check_part(market, part)
    check_there(market, (part,))
    return part


def check_there(market, parts):
    """Raise IsGone with the least part of a set of parts that is gone."""
    for part in parts:
        if part in market.gone:
            raise IsGone(part)
