"""The types to which types move, and all to which they come."""

from kindsunder.basics import direct_supertypes, is_variable, text_of
from kindsunder.errors import InvalidTypes
from kindsunder.growth import check_tame
from kindsunder.tables import MOST_TYPES, are_types, check_table, check_type


def moves_of(table, shape):
    """The list of the types, of any size, to which a type moves."""
    if is_variable(shape):
        return []
    return list(shape[1:]) + direct_supertypes(table, shape)


def moves(table, shape):
    """The list of the types to which the type moves: its arguments, then its direct supertypes."""
    check_type(check_table(table), shape)
    return moves_of(table, shape)


def closure(table, types):
    """The closure of the types, a list in ascending order of the texts."""
    heads = check_table(table)
    check_tame(table)
    if not are_types(heads, types, MOST_TYPES):
        raise InvalidTypes("this is not a tuple of at most four types of the table")
    found = {}
    waiting = list(types)
    while waiting:
        shape = waiting.pop()
        key = text_of(shape)
        if key not in found:
            found[key] = shape
            waiting.extend(moves_of(table, shape))
    return [found[key] for key in sorted(found)]
