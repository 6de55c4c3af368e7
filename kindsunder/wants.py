"""What pairs with variables want: bounds for the variables, or a bar.

The side of bounds is "lower" or "upper". A pair with a variable is open here: it needs nothing.
"""

from kindsunder.basics import open_shape, text_of
from kindsunder.deciding import key_of
from kindsunder.searching import searched
from kindsunder.under import does_refuse, is_pair, needs_of

SIDES = ("lower", "upper")


def is_open(pair):
    """True if one of the types of a pair is a variable."""
    return isinstance(pair[0], str) or isinstance(pair[1], str)


def open_needs(scope, pair):
    """The list of the pairs that a pair needs, or None if it is impossible."""
    return [] if is_open(pair) else needs_of(scope, pair[0], pair[1])


def is_bar_from(scope, starts, value):
    """True if any value is a bar that begins with one of these pairs."""
    if not isinstance(value, list) or not value or not all(is_pair(scope.heads, pair) for pair in value):
        return False
    if value[0] not in starts or any(is_open(pair) for pair in value):
        return False
    return does_refuse(scope, value)


def ascending(types):
    """The tuple of these types in ascending order, each once."""
    found = []
    for one in sorted(types):
        if not found or found[-1] != one:
            found.append(one)
    return tuple(found)


def bounds_in(pairs, letter):
    """The bounds that pairs with a closed side want for a letter."""
    return (ascending([s for s, t in pairs if t == letter]), ascending([t for s, t in pairs if s == letter]))


def limits_from(scope, starts, letters):
    """A tuple (limits, None) with the bounds that these pairs want for each letter, or (None, bar)."""
    pairs = []
    for start in starts:
        rows, road = searched(start, lambda pair: open_needs(scope, pair), key_of)
        if rows is None:
            return None, road
        pairs.extend([row[:2] for row in rows])
    return tuple([bounds_in(pairs, letter) for letter in letters]), None


def bounds_of_side(side, closed):
    """The bounds with this closed type alone, on this side."""
    return ((closed,), ()) if side == "lower" else ((), (closed,))


def types_in(bounds):
    """The list of tuples (side, closed) of the types in bounds."""
    return [(side, closed) for side, types in zip(SIDES, bounds) for closed in types]


def start_of(scope, class_number, side, closed):
    """The pair of the open type of a class and a closed type on this side."""
    shape = open_shape(scope.rows, class_number)
    return (closed, shape) if side == "lower" else (shape, closed)


def piece_of(scope, class_number, side, closed):
    """The split by a class, or the bar, of one closed type alone, as limits_from has it. The scope keeps it."""
    key = f"{class_number} {side} {text_of(closed)}"
    if key not in scope.pieces:
        shape = open_shape(scope.rows, class_number)
        scope.pieces[key] = limits_from(scope, [start_of(scope, class_number, side, closed)], shape[1:])
    return scope.pieces[key]


def gathered(some):
    """The bounds with all types of some bounds."""
    lower, upper = [], []
    for bounds in some:
        lower.extend(bounds[0])
        upper.extend(bounds[1])
    return (ascending(lower), ascending(upper))


def split_of(scope, bounds, class_number):
    """A tuple (split, None) with the split of bounds by a class, or (None, bar).

    Each want comes from one of the types in the bounds, so the splits of these are put together.
    """
    pieces = []
    for side, closed in types_in(bounds):
        limits, road = piece_of(scope, class_number, side, closed)
        if limits is None:
            return None, road
        pieces.append(limits)
    many = len(scope.rows[class_number][0])
    return tuple([gathered([one[at] for one in pieces]) for at in range(many)]), None


def key_of_bounds(bounds):
    """A string for bounds."""
    return " ".join([text_of(one) for one in bounds[0]]) + "|" + " ".join([text_of(one) for one in bounds[1]])


def branches_of(scope, bounds):
    """For each class the split of the bounds, or None if it is barred. The scope keeps it."""
    key = key_of_bounds(bounds)
    if key not in scope.branches:
        scope.branches[key] = [split_of(scope, bounds, number)[0] for number in range(len(scope.rows))]
    return scope.branches[key]
