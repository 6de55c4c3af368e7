"""First keepers of bounds, and floors: how deep keepers are at least."""

from kindsunder.basics import is_integer, is_tuple_of
from kindsunder.bounds import check_bounds, is_bounds
from kindsunder.scopes import tame_scope
from kindsunder.wants import branches_of, key_of_bounds
from kindsunder.webs import Web


def web_of(table, bounds):
    """The web of bounds of a table. Raises InvalidBounds, behind the errors of the table."""
    scope = tame_scope(table)
    check_bounds(scope, bounds)
    return Web(scope, [bounds])


def floors_in(web):
    """The floors of the bounds with number 0 of a web."""
    return list(zip(web.rows, web.depths))


def is_floor(heads, value):
    """True if any value is a tuple of bounds and an integer from 1 on, or None."""
    if not is_tuple_of(value, 2) or not is_bounds(heads, value[0]):
        return False
    return value[1] is None or (is_integer(value[1]) and value[1] > 0)


def does_hold(numbers, bounds, number):
    """True if the numbers of the rows with these bounds have None, or one that is not less than number - 1."""
    some = numbers.get(key_of_bounds(bounds), [])
    return None in some or (number is not None and any(one >= number - 1 for one in some))


def are_floors_of(scope, bounds, value):
    """True if any value is floors of the bounds."""
    if not isinstance(value, list) or not value or not all(is_floor(scope.heads, row) for row in value):
        return False
    numbers = {}
    for inner, number in value:
        numbers.setdefault(key_of_bounds(inner), []).append(number)
    for inner, number in value:
        for split in branches_of(scope, inner) if number != 1 else []:
            if split is not None and not any(does_hold(numbers, one, number) for one in split):
                return False
    return value[0][0] == bounds


def keeper(table, bounds):
    """The first keeper of the bounds, or None if they are barren."""
    return web_of(table, bounds).firsts[0]


def floors_of(table, bounds):
    """Any floors of the bounds whose first number is the depth of the first keeper, or None."""
    return floors_in(web_of(table, bounds))


def are_floors(table, bounds, value):
    """True if the value is floors of the bounds."""
    scope = tame_scope(table)
    check_bounds(scope, bounds)
    return are_floors_of(scope, bounds, value)
