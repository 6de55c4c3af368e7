"""Places in types, and the signs of places."""

from kindsunder.basics import is_number, is_variable, parts_of
from kindsunder.errors import InvalidPlace, InvalidSign
from kindsunder.tables import check_table, check_type, is_sign

# The product of two signs, by both of them in one string.
PRODUCTS = {
    "++": "+", "+-": "-", "-+": "-", "--": "+", "+=": "=", "=+": "=", "-=": "=", "=-": "=", "==": "=",
    "+*": "*", "*+": "*", "-*": "*", "*-": "*", "=*": "*", "*=": "*", "**": "*",
}


def check_sign(sign):
    """Raise InvalidSign if any value is not a sign."""
    if not is_sign(sign):
        raise InvalidSign("this is not a sign")


def product_of(first, second):
    """The product of two values that are signs."""
    return PRODUCTS[first + second]


def does_allow(sign, other):
    """True if a parameter with the sign allows the other one, where both are signs."""
    return other == "*" or sign in ("=", other)


def product(first, second):
    """The product of two signs."""
    check_sign(first)
    check_sign(second)
    return product_of(first, second)


def allows(sign, other):
    """True if a parameter with the sign allows the other sign."""
    check_sign(sign)
    check_sign(other)
    return does_allow(sign, other)


def is_place(shape, value):
    """True if any value is a place in the type."""
    if not isinstance(value, tuple):
        return False
    part = shape
    for number in value:
        if is_variable(part) or not is_number(number, 0, len(part) - 2):
            return False
        part = part[1 + number]
    return True


def part_at(shape, place):
    """The part at what is a place in the type."""
    for number in place:
        shape = shape[1 + number]
    return shape


def sign_of(table, shape, place):
    """The sign of what is a place in the type."""
    sign = "+"
    part = shape
    for number in place:
        sign = product_of(sign, table[part[0]][0][number])
        part = part[1 + number]
    return sign


def parts(table, shape):
    """The list of the tuples (place, part) of a type, in ascending order of the places."""
    check_type(check_table(table), shape)
    return parts_of(shape)


def sign_at(table, shape, place):
    """The sign of a place in a type."""
    check_type(check_table(table), shape)
    if not is_place(shape, place):
        raise InvalidPlace("this is not a place in the type")
    return sign_of(table, shape, place)
