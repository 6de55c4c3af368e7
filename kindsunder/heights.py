"""How high derivations are, which types are alike, and which ones are lowest."""

from kindsunder.deciding import decide, holds, pair_scope
from kindsunder.errors import InvalidTypes
from kindsunder.scopes import tame_scope
from kindsunder.tables import MOST_TYPES, are_types


def height_of(rows):
    """The height of the pair of the last row of a derivation in which each pair has one row."""
    heights = []
    for row in rows:
        heights.append(1 + max([heights[number] for number in row[2]], default=0))
    return heights[-1]


def height(table, s, t):
    """The height of (s, t), or None if s is not under t."""
    rows = decide(pair_scope(table, s, t), s, t)[0]
    if rows is None:
        return None
    return height_of(rows)


def are_alike(table, s, t):
    """True if each of the types is under the other one."""
    scope = pair_scope(table, s, t)
    return holds(scope, s, t) and holds(scope, t, s)


def is_lowest(scope, types, shape):
    """True if each of the types that is under one of them is alike to it."""
    return all(holds(scope, shape, other) for other in types if holds(scope, other, shape))


def lowest(table, types):
    """The ascending list of the numbers of the lowest types."""
    scope = tame_scope(table)
    if not are_types(scope.heads, types, MOST_TYPES):
        raise InvalidTypes("this is not a tuple of at most four types of the table")
    return [number for number, shape in enumerate(types) if is_lowest(scope, types, shape)]
