"""Which pairs of types a pair needs, and what a derivation and a refusal of a pair are."""

from kindsunder.basics import is_number, is_shape, is_tuple_of
from kindsunder.scopes import sound_scope
from kindsunder.tables import check_type


def needs_of(scope, s, t):
    """The list of the pairs that a pair of types, of any size, needs, or None if it is impossible."""
    if isinstance(s, str) or isinstance(t, str):
        return [] if s == t else None
    instance = scope.raised(s, t[0])
    if instance is None:
        return None
    found = []
    for sign, left, right in zip(scope.rows[t[0]][0], instance[1:], t[1:]):
        if sign in ("+", "="):
            found.append((left, right))
        if sign in ("-", "="):
            found.append((right, left))
    return found


def is_pair(heads, value):
    """True if any value is a tuple of two types, of any size."""
    return is_tuple_of(value, 2) and is_shape(heads, value[0]) and is_shape(heads, value[1])


def is_row(heads, value):
    """True if any value is a tuple of two types, of any size, and a tuple."""
    return is_tuple_of(value, 3) and is_pair(heads, value[:2]) and isinstance(value[2], tuple)


def is_derived(scope, pairs, s, t, used):
    """True if used has the number of one of the earlier pairs for each pair that (s, t) needs."""
    wanted = needs_of(scope, s, t)
    if wanted is None or len(wanted) != len(used):
        return False
    for number, pair in zip(used, wanted):
        if not is_number(number, 0, len(pairs) - 1) or pairs[number] != pair:
            return False
    return True


def are_rows(scope, value):
    """True if any value is a derivation of any pair of types, of any size."""
    if not isinstance(value, list) or not value or not all(is_row(scope.heads, row) for row in value):
        return False
    pairs = []
    for s, t, used in value:
        if not is_derived(scope, pairs, s, t, used):
            return False
        pairs.append((s, t))
    return True


def does_refuse(scope, road):
    """True if each pair of a road needs the next one, and the last one is impossible or needs one of the road."""
    for at, (s, t) in enumerate(road):
        wanted = needs_of(scope, s, t)
        if at + 1 < len(road):
            if wanted is None or road[at + 1] not in wanted:
                return False
        elif wanted is not None and not any(pair in road for pair in wanted):
            return False
    return True


def does_derive(scope, s, t, value):
    """True if any value is a derivation of this pair of types."""
    return are_rows(scope, value) and value[-1][:2] == (s, t)


def is_road(scope, s, t, value):
    """True if any value is a refusal of this pair of types."""
    if not isinstance(value, list) or not value or not all(is_pair(scope.heads, pair) for pair in value):
        return False
    return value[0] == (s, t) and does_refuse(scope, value)


def needs(table, s, t):
    """The list of the pairs that (s, t) needs, or None if it is impossible."""
    scope = sound_scope(table)
    check_type(scope.heads, s)
    check_type(scope.heads, t)
    return needs_of(scope, s, t)


def is_derivation(table, s, t, value):
    """True if any value is a derivation of (s, t)."""
    scope = sound_scope(table)
    check_type(scope.heads, s)
    check_type(scope.heads, t)
    return does_derive(scope, s, t, value)


def is_refusal(table, s, t, value):
    """True if any value is a refusal of (s, t)."""
    scope = sound_scope(table)
    check_type(scope.heads, s)
    check_type(scope.heads, t)
    return is_road(scope, s, t, value)
