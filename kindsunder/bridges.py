"""Bridges from halves to others, gaps where there are none, and calls within calls."""

from kindsunder.basics import LETTERS, is_number, is_tuple_of, put, variables_in
from kindsunder.bounds import is_keeper
from kindsunder.calls import are_closed, first_of, is_signature, is_wish, limits_of_call
from kindsunder.crossings import is_choice, is_crossing_of, is_half_of, key_of_crossing, letters_in, needed_of
from kindsunder.deciding import holds
from kindsunder.extremes import is_barren_list
from kindsunder.passages import Passage
from kindsunder.scopes import tame_scope
from kindsunder.wants import key_of_bounds
from kindsunder.wrongs import InvalidCall, InvalidCrossing, InvalidHalf


def halves_scope(table, first, second):
    """The scope of a table. Raises InvalidHalf for both halves, behind the errors of the table."""
    scope = tame_scope(table)
    for half in (first, second):
        if not is_half_of(scope.heads, half):
            raise InvalidHalf("this is not a half")
    return scope


def is_filling(scope, half, value):
    """True if any value is a filling of a half."""
    if not are_closed(scope.heads, value, len(half[1])):
        return False
    return all(is_keeper(scope, bounds, closed) for bounds, closed in zip(half[1], value))


def filled(half, filling):
    """The shape of a half with a filling put in."""
    chosen = {letter: closed for letter, closed in zip(letters_in(half[0]), filling)}
    return put(half[0], [chosen.get(letter, letter) for letter in LETTERS])


def is_bridge_of(scope, first, second, value):
    """True if any value is a bridge from the first half to the second one."""
    if not is_tuple_of(value, 2) or not is_filling(scope, first, value[0]) or not is_filling(scope, second, value[1]):
        return False
    return holds(scope, filled(first, value[0]), filled(second, value[1]))


def is_unmet(scope, known, barren, crossing):
    """True if a row of a gap is right, by the keys of the rows and of the barren bounds."""
    if any(key_of_bounds(bounds) in barren for half in crossing[:2] for bounds in half[1]):
        return True
    wanted = needed_of(scope, crossing)
    if wanted is None:
        return True
    found = [key_of_crossing(one) in known for one in wanted]
    return all(found) if is_choice(crossing) else any(found)


def is_gap_of(scope, first, second, value):
    """True if any value is a gap from the first half to the second one."""
    if not is_tuple_of(value, 2) or not isinstance(value[0], list) or not value[0]:
        return False
    if not is_barren_list(scope, value[1]) or not all(is_crossing_of(scope.heads, row) for row in value[0]):
        return False
    known = {key_of_crossing(row): True for row in value[0]}
    barren = {key_of_bounds(bounds): True for bounds in value[1]}
    return value[0][0] == (first, second, "under") and all(is_unmet(scope, known, barren, row) for row in value[0])


def is_linear(shape):
    """True if each letter stands at most once in a type."""
    letters = variables_in(shape)
    return all(letters.count(letter) == 1 for letter in letters)


def is_nested_call(heads, value):
    """True if any value is a nested call."""
    if not is_tuple_of(value, 6) or not is_signature(heads, value[0]) or not is_signature(heads, value[2]):
        return False
    inner, given, outer, number, others, wish = value
    if not are_closed(heads, given, len(inner[1])) or not is_number(number, 0, len(outer[1]) - 1):
        return False
    if not are_closed(heads, others, len(outer[1]) - 1) or not is_wish(heads, wish):
        return False
    return is_linear(inner[2]) and is_linear(outer[1][number])


def nested_scope(table, call):
    """The scope of a table. Raises InvalidCall if any value is not a nested call, behind the errors of the table."""
    scope = tame_scope(table)
    if not is_nested_call(scope.heads, call):
        raise InvalidCall("this is not a nested call")
    return scope


def limits_of_both(scope, call):
    """A tuple of the bounds of the letters of inner and of those of outer, without what is nested; None if barred."""
    inner, given, outer, number, others, wish = call
    low, _ = limits_of_call(scope, (inner, given, None))
    parameters = outer[1][:number] + outer[1][number + 1:]
    high, _ = limits_of_call(scope, ((outer[0], parameters, outer[2]), others, wish))
    return None if low is None or high is None else (low, high)


def half_of(shape, limits):
    """The half with this shape, by the bounds of all letters."""
    letters = letters_in(shape)
    return (shape, tuple([bounds for letter, bounds in zip(LETTERS, limits) if letter in letters]))


def halves_of(call, both):
    """The halves of a nested call, by the bounds of the letters of inner and outer."""
    return half_of(call[0][2], both[0]), half_of(call[2][1][call[3]], both[1])


def choice_with(scope, half, filling, limits):
    """The choice of a filling, and of the first keepers for other letters; None if one of these has none."""
    chosen = {letter: closed for letter, closed in zip(letters_in(half[0]), filling)}
    firsts = first_of(scope, limits)
    if firsts is None:
        return None
    return tuple([chosen.get(letter, closed) for letter, closed in zip(LETTERS, firsts)])


def is_half(table, value):
    """True if the value is a half."""
    return is_half_of(tame_scope(table).heads, value)


def is_crossing(table, value):
    """True if the value is a crossing."""
    return is_crossing_of(tame_scope(table).heads, value)


def needed_crossings(table, crossing):
    """The list of the crossings that the crossing needs, or None if it is impossible."""
    scope = tame_scope(table)
    if not is_crossing_of(scope.heads, crossing):
        raise InvalidCrossing("this is not a crossing")
    return needed_of(scope, crossing)


def bridge(table, first, second):
    """Any bridge from the first half to the second one, or None."""
    return Passage(halves_scope(table, first, second), first, second).fillings[0]


def gap(table, first, second):
    """Any gap from the first half to the second one, or None."""
    passage = Passage(halves_scope(table, first, second), first, second)
    if passage.fillings[0] is not None:
        return None
    rows = [crossing for crossing, filling in zip(passage.crossings, passage.fillings) if filling is None]
    return rows, passage.web.barren()


def is_gap(table, first, second, value):
    """True if the value is a gap from the first half to the second one."""
    return is_gap_of(halves_scope(table, first, second), first, second, value)


def is_nested(table, value):
    """True if the value is a nested call."""
    return is_nested_call(tame_scope(table).heads, value)


def nested(table, call):
    """Any choices for the nested call, or None if there are none."""
    scope = nested_scope(table, call)
    both = limits_of_both(scope, call)
    if both is None:
        return None
    halves = halves_of(call, both)
    fillings = Passage(scope, halves[0], halves[1]).fillings[0]
    if fillings is None:
        return None
    found = tuple([
        choice_with(scope, half, filling, limits) for half, filling, limits in zip(halves, fillings, both)])
    return None if None in found else found


def nested_halves(table, call):
    """The tuple of the halves of the nested call, or None if one of its two calls is barred."""
    both = limits_of_both(nested_scope(table, call), call)
    return None if both is None else halves_of(call, both)
