"""Halves, which are types with bounds for their variables, and what crossings of halves need."""

from kindsunder.basics import LETTERS, is_shape, is_tuple_of, open_shape, text_of, variables_in
from kindsunder.bounds import is_bounds
from kindsunder.wants import branches_of, key_of_bounds

WAYS = ("under", "alike")


def letters_in(shape):
    """The ascending list of the variables of a type."""
    return sorted(variables_in(shape))


def is_half_of(heads, value):
    """True if any value is a half."""
    if not is_tuple_of(value, 2) or not is_shape(heads, value[0]):
        return False
    letters = letters_in(value[0])
    if any(letter not in LETTERS or letters.count(letter) > 1 for letter in letters):
        return False
    return is_tuple_of(value[1], len(letters)) and all(is_bounds(heads, bounds) for bounds in value[1])


def is_crossing_of(heads, value):
    """True if any value is a crossing."""
    if not is_tuple_of(value, 3) or not is_half_of(heads, value[0]) or not is_half_of(heads, value[1]):
        return False
    return value[2] in WAYS


def key_of_half(half):
    """A string for a half."""
    return " / ".join([text_of(half[0])] + [key_of_bounds(bounds) for bounds in half[1]])


def key_of_crossing(crossing):
    """A string for a crossing."""
    return f"{key_of_half(crossing[0])} ; {key_of_half(crossing[1])} ; {crossing[2]}"


def half_with(half, shape):
    """The half with a part of a half, or of an instance above it, as its shape."""
    letters = letters_in(shape)
    return (shape, tuple([bounds for letter, bounds in zip(letters_in(half[0]), half[1]) if letter in letters]))


def unfolded(scope, half):
    """The list of the halves of open types of classes that may stand for a half whose shape is a variable."""
    return [(open_shape(scope.rows, class_number), split)
            for class_number, split in enumerate(branches_of(scope, half[1][0])) if split is not None]


def raised_to(scope, crossing):
    """The instance above the first shape whose arguments are compared with those of the second one, or None."""
    first, second, way = crossing
    if way == "alike":
        return first[0] if first[0][0] == second[0][0] else None
    return scope.raised(first[0], second[0][0])


def matched(scope, crossing):
    """The list of tuples (crossing, flipped) that a crossing of class types needs, or None if it is impossible.

    Flipped tells that the halves of arguments have changed their places.
    """
    first, second, way = crossing
    raised = raised_to(scope, crossing)
    if raised is None:
        return None
    found = []
    for sign, left, right in zip(scope.rows[second[0][0]][0], raised[1:], second[0][1:]):
        low, high = half_with(first, left), half_with(second, right)
        if sign == "=" or (way == "alike" and sign != "*"):
            found.append(((low, high, "alike"), False))
        elif sign == "+":
            found.append(((low, high, "under"), False))
        elif sign == "-":
            found.append(((high, low, "under"), True))
    return found


def is_choice(crossing):
    """True if one of the shapes is a variable, so that one of the crossings that are needed is enough."""
    return isinstance(crossing[0][0], str) or isinstance(crossing[1][0], str)


def needed_of(scope, crossing):
    """The list of the crossings that a crossing needs, or None if it is impossible."""
    first, second, way = crossing
    if isinstance(first[0], str):
        return [(half, second, way) for half in unfolded(scope, first)]
    if isinstance(second[0], str):
        return [(first, half, way) for half in unfolded(scope, second)]
    found = matched(scope, crossing)
    return None if found is None else [one for one, _ in found]
