"""Tables: what one cover more over a run costs, and what one cover less saves."""

from keptparts.checks import is_whole
from keptparts.cheapest import needed_stock
from keptparts.covers import demand_of
from keptparts.errors import BadNumber
from keptparts.heights import Heights, check_row
from keptparts.markets import check_run, part_there
from keptparts.walks import price_in, walk_prices, world_of


class Table:
    """MORE and LESS of all runs, for one demand and one world."""

    def __init__(self, market, demand, world):
        self.market = market
        self.demand = demand_of(market, demand)
        self.world = world_of(market, world)
        self.stock = needed_stock(market, self.demand, self.world)
        self.price = price_in(self.world, self.stock)
        self._walks = walk_prices(market, self.demand, self.world, self.stock)

    @property
    def known(self):
        """Whether MORE and LESS of every run are integers."""
        return all([cost is not None for row in self._walks for cost in row])

    def more(self, run):
        """What one cover more over the run costs, None if it cannot be had."""
        begin, end = check_run(self.market, run)
        return self._walks[begin][end]

    def less(self, run):
        """What one cover less over the run saves, None if it cannot be had."""
        begin, end = check_run(self.market, run)
        return negative(self._walks[end][begin])

    def allows(self, heights):
        """Whether the worth of every run lies between its LESS and its MORE."""
        check_row(self.market, heights)
        return keeps_below(self._walks, heights.levels)

    def between(self, run, number):
        """Heights that fit, with this worth of the run."""
        begin, end = check_run(self.market, run)
        ahead = self._walks[begin][end]
        back = self._walks[end][begin]
        if not is_whole(number):
            raise BadNumber("number")
        if ahead is not None and number > ahead or back is not None and number < -back:
            raise BadNumber("number")
        return Heights(pinned_levels(self._walks, begin, end, number))

    def lowest(self):
        """The least heights that fit and are 0 at the point 0, None if some LESS(0, d) is None."""
        levels = [negative(row[0]) for row in self._walks]
        return None if None in levels else Heights(levels)

    def highest(self):
        """The greatest heights that fit and are 0 at the point 0, None if some MORE(0, d) is None."""
        levels = self._walks[0]
        return None if None in levels else Heights(levels)

    def enters(self, part):
        """Whether the part is in some cheapest stock of the demand."""
        saved = self.less(self.market.runs[part_there(self.market, part)])
        return saved is not None and self.world[part] <= saved

    def stays(self, part):
        """Whether the part is in every cheapest stock of the demand."""
        cost = self.more(self.market.runs[part_there(self.market, part)])
        return cost is None or self.world[part] < cost


def negative(amount):
    """The negative of an amount, None for None."""
    return None if amount is None else -amount


def keeps_below(walks, levels):
    """Whether no levels differ by more than the least price of a walk between their points."""
    points = list(range(len(levels)))
    pairs = [(first, last) for first in points for last in points if walks[first][last] is not None]
    return all([levels[last] - levels[first] <= walks[first][last] for first, last in pairs])


def pinned_levels(walks, begin, end, number):
    """Levels that keep below the prices of the walks, 0 at one point and the number at another.

    Levels that are the least prices of reaching each point keep below. So that every point
    is reached, one may begin anywhere, but elsewhere so high that the two levels stay.
    """
    high = max([-row[begin] for row in walks if row[begin] is not None])
    high = max([high] + [number - row[end] for row in walks if row[end] is not None])
    starts = [high] * len(walks)
    starts[begin] = 0
    starts[end] = number
    levels = []
    for point in range(len(walks)):
        levels.append(min([start + row[point] for start, row in zip(starts, walks) if row[point] is not None]))
    return levels
