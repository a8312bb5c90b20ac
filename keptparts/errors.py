"""The errors of the package, each one with its fields as attributes."""


class PartsError(ValueError):
    """The base of all errors of this package."""


class BadNumber(PartsError):
    """The parameter of this name is not a number that is allowed there."""

    def __init__(self, name):
        self.name = name


class BadRun(PartsError):
    """A value is no run over the row, or none in a row of runs."""

    def __init__(self, place):
        self.place = place


class BadSet(PartsError):
    """A value is no set of parts."""

    def __init__(self, place):
        self.place = place


class BadPart(PartsError):
    """A value is not the number of a part that is asked for."""

    def __init__(self, part):
        self.part = part


class IsGone(PartsError):
    """A part that must be there is gone."""

    def __init__(self, part):
        self.part = part


class SamePart(PartsError):
    """Two parts that must differ are the same."""

    def __init__(self, part):
        self.part = part


class BadDemand(PartsError):
    """A value is no demand over the row."""

    def __init__(self, place):
        self.place = place


class BadWorld(PartsError):
    """A value is no world of the market."""

    def __init__(self, place):
        self.place = place


class BadHeights(PartsError):
    """Heights are of a wrong form, or fall where they must not."""

    def __init__(self, place):
        self.place = place


class BadStretch(PartsError):
    """A stretch is of a wrong form, or not inside the old one."""

    def __init__(self, part):
        self.part = part


class OtherSize(PartsError):
    """Notes have another number of stretches than the market has parts."""

    def __init__(self, size):
        self.size = size


class OtherRow(PartsError):
    """Heights have another number of places than the row."""

    def __init__(self, size):
        self.size = size


class NotJoin(PartsError):
    """A market of the kind join is needed."""

    def __init__(self):
        pass


class NoStock(PartsError):
    """The demand has no stock."""

    def __init__(self):
        pass


class NotAStock(PartsError):
    """A set of parts is no stock of the demand."""

    def __init__(self, place):
        self.place = place


class NotAgreeing(PartsError):
    """A price is not in the stretch of its part."""

    def __init__(self, part):
        self.part = part


class NotCheapest(PartsError):
    """A stock is not cheapest; the ring lowers its price."""

    def __init__(self, outs, ins):
        self.outs = outs
        self.ins = ins


class NotSafe(PartsError):
    """A stock is not safe; the ring can lower its price."""

    def __init__(self, outs, ins):
        self.outs = outs
        self.ins = ins


class NotPossible(PartsError):
    """A stock is cheapest in no agreeing world."""

    def __init__(self, parts):
        self.parts = parts


class Mixed(PartsError):
    """A part is mixed with another one."""

    def __init__(self, part):
        self.part = part


class NoParts(PartsError):
    """At least one part is needed."""

    def __init__(self):
        pass


class NotFitting(PartsError):
    """A part does not let the heights fit."""

    def __init__(self, part):
        self.part = part


class IsFirm(PartsError):
    """A part is in every stock of the demand."""

    def __init__(self, part):
        self.part = part


class IsDead(PartsError):
    """A part is in no stock of the demand."""

    def __init__(self, part):
        self.part = part


class BadPoint(PartsError):
    """A value is no point, or no row of points."""

    def __init__(self, point):
        self.point = point


class NoUseful(PartsError):
    """No run is useful."""

    def __init__(self):
        pass


class NotFolding(PartsError):
    """The runs do not fold; they have the bridge."""

    def __init__(self, bridge):
        self.bridge = bridge


class BadText(PartsError):
    """A line of a text is wrong."""

    def __init__(self, line):
        self.line = line


class TooMany(PartsError):
    """There are more of something than can be gone through."""

    def __init__(self, number):
        self.number = number


class IsLost(PartsError):
    """A part is lost already."""

    def __init__(self, part):
        self.part = part


class NotLost(PartsError):
    """A part is not lost."""

    def __init__(self, part):
        self.part = part


class IsBought(PartsError):
    """A part is bought already."""

    def __init__(self, part):
        self.part = part


class FixedWanted(PartsError):
    """The wanted size is changed by a deed only."""

    def __init__(self):
        pass


class NothingBack(PartsError):
    """No deed is left that could be taken back."""

    def __init__(self):
        pass


class Closed(PartsError):
    """A trial is used a second time."""

    def __init__(self):
        pass
