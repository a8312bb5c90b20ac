"""Notes: what is known of the prices, a stretch for each part, and the worlds that agree."""

from keptparts.checks import first_wrong, is_count, is_pair, is_row, is_within, prices_of
from keptparts.errors import (
    BadNumber, BadPart, BadStretch, BadWorld, NotAgreeing, OtherSize, TooMany,
)
from keptparts.sets import set_of

MOST_WORLDS = 5000


class Notes:
    """One stretch, a low end and a high end, for each part of a market."""

    __slots__ = ("stretches", "lows", "highs")

    def __init__(self, stretches):
        if not is_row(stretches):
            raise BadStretch(-1)
        place = first_wrong([is_stretch(stretch) for stretch in stretches])
        if place is not None:
            raise BadStretch(place)
        self.stretches = tuple([tuple(stretch) for stretch in stretches])
        self.lows = tuple([low for low, _ in self.stretches])
        self.highs = tuple([high for _, high in self.stretches])

    @classmethod
    def unknown(cls, many, top):
        """The notes with the stretch from 0 to top for each of many parts."""
        if not is_count(many):
            raise BadNumber("many")
        if not is_count(top):
            raise BadNumber("top")
        return cls([(0, top)] * many)

    @classmethod
    def seen_at(cls, world):
        """The notes in which every part is seen at its price in the world."""
        if not is_row(world):
            raise BadWorld(-1)
        return cls([(price, price) for price in prices_of(len(world), world)])

    @property
    def settled(self):
        """Whether all parts are seen."""
        return self.lows == self.highs

    def __len__(self):
        return len(self.stretches)

    def __eq__(self, other):
        return isinstance(other, Notes) and self.stretches == other.stretches

    def is_seen(self, part):
        """Whether the part is seen."""
        check_number(self, part)
        return self.lows[part] == self.highs[part]

    def unseen(self):
        """The set of the unseen parts."""
        return tuple([part for part, (low, high) in enumerate(self.stretches) if low < high])

    def agrees(self, world):
        """Whether the world agrees with the notes."""
        return wrong_part(self, prices_of(len(self.stretches), world)) is None

    def high_on(self, parts):
        """The world with the high ends for these parts and the low ends for all others."""
        chosen = set_of(len(self.stretches), parts)
        return mixed_world(self.highs, self.lows, chosen)

    def low_on(self, parts):
        """The world with the low ends for these parts and the high ends for all others."""
        chosen = set_of(len(self.stretches), parts)
        return mixed_world(self.lows, self.highs, chosen)

    def ask(self, part, price):
        """The notes in which the part is seen at the price."""
        check_number(self, part)
        if not is_count(price):
            raise BadNumber("price")
        if not self.lows[part] <= price <= self.highs[part]:
            raise NotAgreeing(part)
        return with_stretches(self, (part,), (price, price))

    def narrow(self, part, low, high):
        """The notes in which the part has a stretch inside its old one."""
        check_number(self, part)
        if not is_stretch((low, high)) or low < self.lows[part] or high > self.highs[part]:
            raise BadStretch(part)
        return with_stretches(self, (part,), (low, high))

    def after(self, parts, world):
        """The notes in which each of these parts is seen at its price in the world."""
        chosen = set_of(len(self.stretches), parts)
        prices = prices_of(len(self.stretches), world)
        check_agrees(self, prices)
        return Notes([(prices[part], prices[part]) if part in chosen else stretch
                      for part, stretch in enumerate(self.stretches)])

    def kept_free(self, parts):
        """The notes in which these parts cost nothing."""
        return with_stretches(self, set_of(len(self.stretches), parts), (0, 0))

    def and_stretch(self, low, high):
        """The notes with one stretch more at the end."""
        return Notes([*self.stretches, (low, high)])


def is_stretch(value):
    """Whether the value is a stretch."""
    return is_pair(value) and is_count(value[0]) and is_count(value[1]) and value[0] <= value[1]


def check_number(notes, part):
    """Raise BadPart if the value is no part number of the notes."""
    if not is_within(part, 0, len(notes.stretches) - 1):
        raise BadPart(part)


def check_notes(market, notes):
    """Raise OtherSize if the notes have another number of stretches than the market has parts."""
    if len(notes.stretches) != market.many:
        raise OtherSize(len(notes.stretches))


def wrong_part(notes, prices):
    """The least part whose price is not in its stretch, None if the world agrees."""
    return first_wrong([low <= price <= high for price, (low, high) in zip(prices, notes.stretches)])


def check_agrees(notes, prices):
    """Raise NotAgreeing with the least part whose price is not in its stretch."""
    part = wrong_part(notes, prices)
    if part is not None:
        raise NotAgreeing(part)


def mixed_world(prices, other_prices, chosen):
    """The world with the first prices for the chosen parts and the other ones elsewhere."""
    pairs = list(zip(prices, other_prices))
    return tuple([one if part in chosen else other for part, (one, other) in enumerate(pairs)])


def with_stretches(notes, chosen, stretch):
    """The notes in which each of the chosen parts has this stretch."""
    return Notes([stretch if part in chosen else old for part, old in enumerate(notes.stretches)])


def replaced(prices, part, price):
    """The world in which one part has another price."""
    return prices[:part] + (price,) + prices[part + 1:]


def count_worlds(notes):
    """The number of the agreeing worlds."""
    number = 1
    for low, high in notes.stretches:
        number = number * (high - low + 1)
    return number


def worlds(notes):
    """Yield all agreeing worlds in ascending order."""
    number = count_worlds(notes)
    if number > MOST_WORLDS:
        raise TooMany(number)
    world = notes.lows
    while world is not None:
        yield world
        world = next_world(notes, world)


def next_world(notes, world):
    """The agreeing world that comes next, None after the last one."""
    for part in range(len(world) - 1, -1, -1):
        if world[part] < notes.highs[part]:
            return world[:part] + (world[part] + 1,) + notes.lows[part + 1:]
    return None


def path(notes, world, other):
    """The agreeing worlds from one to another, one price changed by 1 at each step."""
    here = prices_of(len(notes.stretches), world)
    goal = prices_of(len(notes.stretches), other)
    check_agrees(notes, here)
    check_agrees(notes, goal)
    number = sum([abs(end - price) for price, end in zip(here, goal)]) + 1
    if number > MOST_WORLDS:
        raise TooMany(number)
    found = [here]
    for part, end in enumerate(goal):
        by = 1 if end > here[part] else -1
        while here[part] != end:
            here = replaced(here, part, here[part] + by)
            found.append(here)
    return found
