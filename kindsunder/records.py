"""Judging records: of keepers, barren bounds, bars, pumps, covers, outsides, ends, choices, bridges and gaps.

For each form there are functions for its conditions, in their order. Each one is asked only if those before it hold;
the entries are those behind the table, any values.
"""

from kindsunder.basics import depth_of, is_closed, is_number, is_tuple_of
from kindsunder.bounds import is_bounds, is_keeper
from kindsunder.bridges import is_bridge_of, is_gap_of
from kindsunder.calls import are_closed, does_fit, is_call_for, letters_of, limits_of_call, sides_of
from kindsunder.counts import is_pump_of
from kindsunder.crossings import is_half_of
from kindsunder.extremes import are_covers_of
from kindsunder.keepers import are_floors_of
from kindsunder.scopes import tame_scope
from kindsunder.splits import is_bar_of
from kindsunder.wants import SIDES, bounds_of_side
from kindsunder.wrongs import NotARecord


def has_bounds(scope, entries):
    """True if the first entry is bounds."""
    return is_bounds(scope.heads, entries[0])


def has_other(scope, entries):
    """True if the second entry is bounds."""
    return is_bounds(scope.heads, entries[1])


def has_class(scope, entries):
    """True if the second entry is the number of a class."""
    return is_number(entries[1], 0, len(scope.rows) - 1)


def has_keeper(scope, entries):
    """True if the second entry is a keeper of the first one."""
    return is_closed(scope.heads, entries[1]) and is_keeper(scope, entries[0], entries[1])


def has_floors(scope, entries):
    """True if the third entry is floors of the first one that begin with the depth of the second one."""
    return are_floors_of(scope, entries[0], entries[2]) and entries[2][0][1] == depth_of(entries[1])


def has_barren_floors(scope, entries):
    """True if the second entry is floors of the first one that begin with None."""
    return are_floors_of(scope, entries[0], entries[1]) and entries[1][0][1] is None


def has_bar(scope, entries):
    """True if the third entry is a bar of the second one for the first one."""
    return is_bar_of(scope, entries[0], entries[1], entries[2])


def has_pump(scope, entries):
    """True if the second entry is a pump of the first one."""
    return is_pump_of(scope, entries[0], entries[1])


def has_covers(scope, entries):
    """True if the third entry is covers of the first one for the second one."""
    return are_covers_of(scope, entries[0], entries[1], entries[2])


def has_inside(scope, entries):
    """True if the third entry is a keeper of the first one."""
    return is_closed(scope.heads, entries[2]) and is_keeper(scope, entries[0], entries[2])


def has_outside(scope, entries):
    """True if the third entry is no keeper of the second one."""
    return not is_keeper(scope, entries[1], entries[2])


def has_lower_covers(scope, entries):
    """True if the third entry shows that the second one is under all keepers of the first one."""
    return are_covers_of(scope, entries[0], bounds_of_side("lower", entries[1]), entries[2])


def has_upper_covers(scope, entries):
    """True if the third entry shows that the second one is over all keepers of the first one."""
    return are_covers_of(scope, entries[0], bounds_of_side("upper", entries[1]), entries[2])


def has_call(scope, entries):
    """True if the first entry is a call."""
    return is_call_for(scope.heads, entries[0])


def has_choice(scope, entries):
    """True if the second entry is a choice that fits the first one."""
    call, choice = entries[:2]
    return are_closed(scope.heads, choice, call[0][0]) and does_fit(scope, call, choice)


def has_ends(scope, entries):
    """True if the third entry has the covers that show that the second one is a best choice."""
    call, choice, value = entries
    if not is_tuple_of(value, len(choice)) or not all(is_tuple_of(both, 2) for both in value):
        return False
    limits, _ = limits_of_call(scope, call)
    for letter, bounds, closed, both in zip(letters_of(call[0]), limits, choice, value):
        sides = sides_of(scope, call[0][2], letter)
        for side, found in zip(SIDES, both):
            if side in sides and not are_covers_of(scope, bounds, bounds_of_side(side, closed), found):
                return False
    return True


def has_first_half(scope, entries):
    """True if the first entry is a half."""
    return is_half_of(scope.heads, entries[0])


def has_second_half(scope, entries):
    """True if the second entry is a half."""
    return is_half_of(scope.heads, entries[1])


def has_bridge(scope, entries):
    """True if the third entry is a bridge from the first one to the second one."""
    return is_bridge_of(scope, entries[0], entries[1], entries[2])


def has_gap(scope, entries):
    """True if the third entry is a gap from the first one to the second one."""
    return is_gap_of(scope, entries[0], entries[1], entries[2])


CONDITIONS = {
    "keeper": (has_bounds, has_keeper, has_floors),
    "barren": (has_bounds, has_barren_floors),
    "bar": (has_bounds, has_class, has_bar),
    "pump": (has_bounds, has_pump),
    "covers": (has_bounds, has_other, has_covers),
    "outside": (has_bounds, has_other, has_inside, has_outside),
    "bottom": (has_bounds, has_keeper, has_lower_covers),
    "top": (has_bounds, has_keeper, has_upper_covers),
    "best": (has_call, has_choice, has_ends),
    "bridge": (has_first_half, has_second_half, has_bridge),
    "gap": (has_first_half, has_second_half, has_gap),
}
# The number of entries of a record, by its word.
ENTRIES = {
    "keeper": 5, "barren": 4, "bar": 5, "pump": 4, "covers": 5, "outside": 5, "bottom": 5, "top": 5, "best": 5,
    "bridge": 5, "gap": 5}


def is_record(value):
    """True if any value is a tuple of one of the forms, by its first entry and its length."""
    if not isinstance(value, tuple) or len(value) == 0 or not isinstance(value[0], str):
        return False
    return len(value) == ENTRIES.get(value[0], 0)


def judge(record):
    """("right",), or ("wrong", k) with the number k of the first condition that does not hold."""
    if not is_record(record):
        raise NotARecord("this is not a record")
    scope = tame_scope(record[1])
    for number, condition in enumerate(CONDITIONS[record[0]]):
        if not condition(scope, record[2:]):
            return ("wrong", number)
    return ("right",)
