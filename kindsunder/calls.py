"""Calls that leave types open: signatures with letters, and the types that fit them."""

from kindsunder.basics import LETTERS, is_closed, is_number, is_tuple_of, is_tuple_up_to, parts_of, parts_within, put
from kindsunder.deciding import holds
from kindsunder.extremes import does_cover, extreme_of
from kindsunder.places import sign_of
from kindsunder.scopes import tame_scope
from kindsunder.tables import DEPTH_WITHIN, PARTS_WITHIN
from kindsunder.wants import SIDES, bounds_of_side, limits_from
from kindsunder.webs import Web
from kindsunder.wrongs import InvalidCall, InvalidChoice

MOST_PARAMETERS = 3
# The signs of places in the result that make one side count.
SIGNS_OF_SIDE = {"lower": ("+", "="), "upper": ("-", "=")}


def is_pattern(heads, letters, value):
    """True if any value is a type that may stand in a signature with these letters."""
    if not isinstance(value, tuple):
        return value in letters
    leaves = []
    if parts_within(heads, value, DEPTH_WITHIN, leaves) > PARTS_WITHIN:
        return False
    return all(leaf in letters for leaf in leaves)


def is_signature(heads, value):
    """True if any value is a signature."""
    if not is_tuple_of(value, 3) or not is_number(value[0], 0, len(LETTERS)):
        return False
    many, parameters, result = value
    letters = LETTERS[:many]
    if not is_tuple_up_to(parameters, MOST_PARAMETERS) or not is_pattern(heads, letters, result):
        return False
    return all(is_pattern(heads, letters, one) for one in parameters)


def are_closed(heads, value, many):
    """True if any value is a tuple of so many closed types, of any size."""
    return is_tuple_of(value, many) and all(is_closed(heads, one) for one in value)


def is_wish(heads, value):
    """True if any value is a closed type or None."""
    return value is None or is_closed(heads, value)


def is_call_for(heads, value):
    """True if any value is a call."""
    if not is_tuple_of(value, 3) or not is_signature(heads, value[0]):
        return False
    return are_closed(heads, value[1], len(value[0][1])) and is_wish(heads, value[2])


def check_call(heads, call):
    """Raise InvalidCall if any value is not a call."""
    if not is_call_for(heads, call):
        raise InvalidCall("this is not a call")


def call_scope(table, call):
    """The scope of a table. Raises InvalidCall, behind the errors of the table."""
    scope = tame_scope(table)
    check_call(scope.heads, call)
    return scope


def letters_of(signature):
    """The letters of a signature."""
    return LETTERS[:signature[0]]


def starts_of(call):
    """The pairs that the wants of a call begin with."""
    signature, arguments, wish = call
    found = list(zip(arguments, signature[1]))
    if wish is not None:
        found.append((signature[2], wish))
    return found


def limits_of_call(scope, call):
    """A tuple (limits, None) with the bounds of each letter, or (None, bar)."""
    return limits_from(scope, starts_of(call), letters_of(call[0]))


def does_fit(scope, call, choice):
    """True if a choice fits a call."""
    return all(holds(scope, put(s, choice), put(t, choice)) for s, t in starts_of(call))


def first_of(scope, limits):
    """The tuple of the first keepers of some bounds, or None if some of them are barren."""
    web = Web(scope, limits)
    found = tuple([web.firsts[web.number_of(bounds)] for bounds in limits])
    return None if None in found else found


def sides_of(scope, result, letter):
    """The sides on which the type of a letter in a best choice is an end of all types that keep its bounds."""
    signs = [sign_of(scope.rows, result, place) for place, part in parts_of(result) if part == letter]
    return [side for side in SIDES if any(sign in SIGNS_OF_SIDE[side] for sign in signs)]


def best_of(web, number, sides):
    """A keeper of bounds, which have one, that is an end of all of them on these sides, or None."""
    if len(sides) == 1:
        return extreme_of(web, number, sides[0])
    closed = web.firsts[number]
    return closed if all(does_cover(web, number, bounds_of_side(side, closed)) for side in sides) else None


def is_call(table, value):
    """True if the value is a call."""
    return is_call_for(tame_scope(table).heads, value)


def opened(table, call):
    """The tuple of the bounds of the letters of the call, or None if it is barred."""
    return limits_of_call(call_scope(table, call), call)[0]


def call_bar(table, call):
    """Any bar of the call, or None if it is not barred."""
    return limits_of_call(call_scope(table, call), call)[1]


def first_choice(table, call):
    """The choice of the first keepers of the bounds of the letters, or None if no choice fits."""
    scope = call_scope(table, call)
    limits, _ = limits_of_call(scope, call)
    return None if limits is None else first_of(scope, limits)


def fits(table, call, choice):
    """True if the choice fits the call."""
    scope = call_scope(table, call)
    if not are_closed(scope.heads, choice, call[0][0]):
        raise InvalidChoice("this is not a tuple with a closed type for each letter")
    return does_fit(scope, call, choice)


def best_choice(table, call):
    """Any best choice for the call, or None if there is none."""
    scope = call_scope(table, call)
    limits, _ = limits_of_call(scope, call)
    if limits is None:
        return None
    web = Web(scope, limits)
    if any(web.firsts[web.number_of(bounds)] is None for bounds in limits):
        return None
    found = []
    for letter, bounds in zip(letters_of(call[0]), limits):
        found.append(best_of(web, web.number_of(bounds), sides_of(scope, call[0][2], letter)))
    return None if None in found else tuple(found)
