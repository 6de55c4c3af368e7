"""Bounds: closed types that a closed type is to stand between."""

from kindsunder.basics import is_closed, is_tuple_of
from kindsunder.deciding import holds
from kindsunder.errors import InvalidType
from kindsunder.scopes import tame_scope
from kindsunder.wrongs import InvalidBounds


def is_side(heads, value):
    """True if any value is an ascending tuple of different closed types, of any size."""
    if not isinstance(value, tuple) or not all(is_closed(heads, one) for one in value):
        return False
    return all(value[at - 1] < value[at] for at in range(1, len(value)))


def is_bounds(heads, value):
    """True if any value is bounds."""
    return is_tuple_of(value, 2) and is_side(heads, value[0]) and is_side(heads, value[1])


def is_keeper(scope, bounds, closed):
    """True if the closed type keeps the bounds."""
    lower, upper = bounds
    return all(holds(scope, one, closed) for one in lower) and all(holds(scope, closed, one) for one in upper)


def check_bounds(scope, bounds):
    """Raise InvalidBounds if any value is not bounds."""
    if not is_bounds(scope.heads, bounds):
        raise InvalidBounds("these are not bounds")


def check_closed(scope, closed):
    """Raise InvalidType if any value is not a closed type of the table, of any size."""
    if not is_closed(scope.heads, closed):
        raise InvalidType("this is not a closed type of the table")


def are_bounds(table, value):
    """True if the value is bounds."""
    return is_bounds(tame_scope(table).heads, value)


def keeps(table, bounds, closed):
    """True if the closed type keeps the bounds."""
    scope = tame_scope(table)
    check_bounds(scope, bounds)
    check_closed(scope, closed)
    return is_keeper(scope, bounds, closed)
