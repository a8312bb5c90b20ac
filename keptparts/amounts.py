"""Amounts: integers, and None as the price of what does not exist."""

from keptparts.checks import is_row, is_whole
from keptparts.errors import BadNumber


def is_amount(value):
    """Whether the value is an integer or None."""
    return value is None or is_whole(value)


def check_amounts(one, other):
    """Raise BadNumber for the first of the two that is no amount."""
    if not is_amount(one):
        raise BadNumber("one")
    if not is_amount(other):
        raise BadNumber("other")


def check_amount_row(row):
    """Raise BadNumber if the row is not a tuple or list of amounts."""
    if not is_row(row) or not all([is_amount(item) for item in row]):
        raise BadNumber("row")


def plus(one, other):
    """The sum of two amounts, None if one of them is None."""
    check_amounts(one, other)
    if one is None or other is None:
        return None
    return one + other


def total(row):
    """The sum of a row of amounts, None if one of them is None."""
    check_amount_row(row)
    if None in row:
        return None
    return sum(row)


def least(row):
    """The least integer in a row of amounts, None if there is no integer."""
    check_amount_row(row)
    return min([item for item in row if item is not None], default=None)


def at_most(one, other):
    """Whether one is not greater than other, where None is greatest."""
    check_amounts(one, other)
    if other is None:
        return True
    return one is not None and one <= other


def gap(one, other):
    """One less other, which must be an integer; None if one is None."""
    if not is_amount(one):
        raise BadNumber("one")
    if not is_whole(other):
        raise BadNumber("other")
    if one is None:
        return None
    return one - other
