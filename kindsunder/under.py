"""Which pairs of types a pair needs, and what a derivation and a refusal of a pair are."""

from kindsunder.above import instance_above
from kindsunder.basics import counts_of, is_number, is_shape, is_variable
from kindsunder.sound import check_sound
from kindsunder.tables import check_table, check_type


def needs_of(table, s, t):
    """The list of the pairs that a pair of types, of any size, needs, or None if it is impossible."""
    if is_variable(s) or is_variable(t):
        return [] if s == t else None
    instance = instance_above(table, s, t[0])
    if instance is None:
        return None
    found = []
    for sign, left, right in zip(table[t[0]][0], instance[1:], t[1:]):
        if sign in ("+", "="):
            found.append((left, right))
        if sign in ("-", "="):
            found.append((right, left))
    return found


def is_pair(counts, value):
    """True if any value is a tuple of two types, of any size."""
    if not isinstance(value, tuple) or len(value) != 2:
        return False
    return is_shape(counts, value[0]) and is_shape(counts, value[1])


def is_row(counts, value):
    """True if any value is a tuple of two types, of any size, and a tuple."""
    if not isinstance(value, tuple) or len(value) != 3:
        return False
    return is_pair(counts, value[:2]) and isinstance(value[2], tuple)


def is_derived(table, pairs, s, t, used):
    """True if used has the number of one of the earlier pairs for each pair that (s, t) needs."""
    wanted = needs_of(table, s, t)
    if wanted is None or len(wanted) != len(used):
        return False
    for number, pair in zip(used, wanted):
        if not is_number(number, 0, len(pairs) - 1) or pairs[number] != pair:
            return False
    return True


def are_rows(table, value):
    """True if any value is a derivation of any pair of types, of any size."""
    counts = counts_of(table)
    if not isinstance(value, list) or not value or not all(is_row(counts, row) for row in value):
        return False
    pairs = []
    for s, t, used in value:
        if not is_derived(table, pairs, s, t, used):
            return False
        pairs.append((s, t))
    return True


def does_refuse(table, road):
    """True if each pair of a road needs the next one, and the last one is impossible or needs one of the road."""
    for at, (s, t) in enumerate(road):
        wanted = needs_of(table, s, t)
        if at + 1 < len(road):
            if wanted is None or road[at + 1] not in wanted:
                return False
        elif wanted is not None and not any(pair in road for pair in wanted):
            return False
    return True


def needs(table, s, t):
    """The list of the pairs that (s, t) needs, or None if it is impossible."""
    check_table(table)
    check_sound(table)
    check_type(table, s)
    check_type(table, t)
    return needs_of(table, s, t)


def is_derivation(table, s, t, value):
    """True if any value is a derivation of (s, t)."""
    check_table(table)
    check_sound(table)
    check_type(table, s)
    check_type(table, t)
    return are_rows(table, value) and value[-1][:2] == (s, t)


def is_refusal(table, s, t, value):
    """True if any value is a refusal of (s, t)."""
    check_table(table)
    check_sound(table)
    check_type(table, s)
    check_type(table, t)
    counts = counts_of(table)
    if not isinstance(value, list) or not value or not all(is_pair(counts, pair) for pair in value):
        return False
    return value[0] == (s, t) and does_refuse(table, value)
