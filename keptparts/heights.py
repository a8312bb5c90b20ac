"""Heights: one integer for each point, which show that a stock is cheapest."""

from keptparts.checks import first_wrong, is_row, is_run, is_whole, is_within
from keptparts.covers import check_stock, demand_of, places_over
from keptparts.errors import BadHeights, BadNumber, BadPoint, BadRun, OtherRow
from keptparts.flows import spread
from keptparts.markets import is_lap
from keptparts.sets import set_of
from keptparts.walks import arcs_of, world_of


class Heights:
    """One integer for each point of a row."""

    def __init__(self, levels):
        check_levels(levels)
        self.levels = tuple(levels)
        self.size = len(levels) - 1

    @classmethod
    def level(cls, size):
        """The heights that are 0 at every point of a row of that size."""
        if not is_whole(size) or size < 1:
            raise BadNumber("size")
        return cls([0] * (size + 1))

    @staticmethod
    def worth_of(levels, run):
        """The worth of a run in heights that are told by their levels."""
        check_levels(levels)
        return run_worth(levels, run)

    def worth(self, run):
        """The worth of a run."""
        return run_worth(self.levels, run)

    def worths(self, market):
        """The tuple of the worths of all parts of a market, gone ones too."""
        check_row(market, self)
        return tuple([self.levels[end] - self.levels[begin] for begin, end in market.runs])

    def is_rising(self):
        """Whether the heights never fall from the left to the right."""
        return first_fall(self) is None

    def __getitem__(self, at):
        if not is_within(at, 0, self.size):
            raise BadPoint(at)
        return self.levels[at]

    def __len__(self):
        return len(self.levels)

    def __iter__(self):
        return iter(self.levels)

    def __eq__(self, other):
        return isinstance(other, Heights) and self.levels == other.levels

    def __add__(self, other):
        return Heights([one + two for one, two in level_pairs(self, other)])

    def __and__(self, other):
        return Heights([min(one, two) for one, two in level_pairs(self, other)])

    def __or__(self, other):
        return Heights([max(one, two) for one, two in level_pairs(self, other)])

    def __neg__(self):
        return Heights([-one for one in self.levels])


def check_levels(levels):
    """Raise BadHeights if the levels are not those of heights."""
    if not is_row(levels) or len(levels) < 2:
        raise BadHeights(-1)
    place = first_wrong([is_whole(number) for number in levels])
    if place is not None:
        raise BadHeights(place)


def run_worth(levels, run):
    """The worth of a run in levels that are checked."""
    if not is_run(len(levels) - 1, run):
        raise BadRun(-1)
    return levels[run[1]] - levels[run[0]]


def level_pairs(one, other):
    """The levels of two heights, point by point."""
    if one.size != other.size:
        raise OtherRow(other.size)
    return list(zip(one.levels, other.levels))


def check_row(market, heights):
    """Raise OtherRow if the heights have another size than the market."""
    if heights.size != market.size:
        raise OtherRow(heights.size)


def first_fall(heights):
    """The least place over which the heights fall, None if there is none."""
    levels = heights.levels
    return first_wrong([levels[place] <= levels[place + 1] for place in range(heights.size)])


def check_rising(market, heights):
    """Raise BadHeights if the market is of the kind lap and the heights fall over a place."""
    place = first_fall(heights)
    if is_lap(market) and place is not None:
        raise BadHeights(place)


def fits(market, demand, world, stock, heights):
    """Whether the heights fit the stock in the world."""
    wanted = demand_of(market, demand)
    prices = world_of(market, world)
    chosen = set_of(market.many, stock)
    check_row(market, heights)
    check_stock(market, wanted, chosen)
    if is_lap(market) and not fits_places(market, wanted, chosen, heights):
        return False
    worths = heights.worths(market)
    for part in market.there():
        if part in chosen and worths[part] < prices[part]:
            return False
        if part not in chosen and worths[part] > prices[part]:
            return False
    return True


def fits_places(market, wanted, chosen, heights):
    """Whether the heights rise, and are level over each place that is covered too often."""
    levels = heights.levels
    if not heights.is_rising():
        return False
    return all([levels[place] == levels[place + 1] for place in places_over(market, wanted, chosen)])


def fitting(market, demand, world, stock):
    """Some heights that fit the stock, None if it is not cheapest."""
    wanted = demand_of(market, demand)
    prices = world_of(market, world)
    return heights_for(market, wanted, prices, check_stock(market, wanted, stock))


def heights_for(market, wanted, prices, chosen):
    """Some heights that fit a stock that is not checked, None if it is not cheapest."""
    points = market.size + 1
    levels, _, lowered = spread(points, arcs_of(market, wanted, prices, chosen), list(range(points)))
    if lowered is not None:
        return None
    return Heights(levels)


def value_of(market, demand, world, heights):
    """The value of the heights at the demand in the world."""
    wanted = demand_of(market, demand)
    prices = world_of(market, world)
    check_row(market, heights)
    check_rising(market, heights)
    levels = heights.levels
    worths = heights.worths(market)
    income = sum([wanted[j] * (levels[j + 1] - levels[j]) for j in range(market.size)])
    return income - sum([max(0, worths[part] - prices[part]) for part in market.there()])


def held(market, world, heights):
    """The set of the parts whose worth is greater than their price."""
    prices = world_of(market, world)
    worths = heights.worths(market)
    return tuple([part for part in market.there() if worths[part] > prices[part]])


def barred(market, world, heights):
    """The set of the parts whose worth is less than their price."""
    prices = world_of(market, world)
    worths = heights.worths(market)
    return tuple([part for part in market.there() if worths[part] < prices[part]])
