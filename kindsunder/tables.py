"""Tables of classes, and the types of a table."""

from kindsunder.basics import LETTERS, counts_of, depth_of, is_number, is_shape, is_variable, put, text_of, variables_in
from kindsunder.errors import InvalidArguments, InvalidClass, InvalidTable, InvalidType

SIGNS = ("+", "-", "=", "*")
USES = ("get", "put", "both")
MOST_CLASSES = 5
MOST_SIGNS = 2
MOST_SUPERS = 2
MOST_MEMBERS = 3
# The greatest depth and number of parts: of a type in a class, and of one that is passed.
WITHIN_CLASSES = (3, 5)
WHEN_PASSED = (6, 25)


def is_sign(value):
    """True if any value is a sign."""
    return value in SIGNS


def is_tuple_up_to(value, most):
    """True if any value is a tuple with at most so many entries."""
    return isinstance(value, tuple) and len(value) <= most


def is_frame(value):
    """True if any value has the form of a class, whatever its supers and members are."""
    if not isinstance(value, tuple) or len(value) != 3:
        return False
    signs, supers, members = value
    if not is_tuple_up_to(signs, MOST_SIGNS) or not all(is_sign(sign) for sign in signs):
        return False
    return is_tuple_up_to(supers, MOST_SUPERS) and is_tuple_up_to(members, MOST_MEMBERS)


def is_inner(counts, many, value):
    """True if any value is a type that may stand in a class with so many parameters."""
    if not is_shape(counts, value, WITHIN_CLASSES):
        return False
    return all(letter in LETTERS[:many] for letter in variables_in(value))


def is_super(counts, many, value):
    """True if any value is a type that may be a super of a class with so many parameters."""
    if is_variable(value) or not is_inner(counts, many, value):
        return False
    letters = variables_in(value)
    return len(set(letters)) == len(letters)


def is_member(counts, many, value):
    """True if any value is a tuple that may be a member of a class with so many parameters."""
    if not isinstance(value, tuple) or len(value) != 3:
        return False
    name, use, shape = value
    return is_number(name, 0, 9) and use in USES and is_inner(counts, many, shape)


def is_filled(counts, row):
    """True if the supers and the members of what has the form of a class are right."""
    signs, supers, members = row
    many = len(signs)
    if not all(is_super(counts, many, one) for one in supers):
        return False
    if not all(is_member(counts, many, one) for one in members):
        return False
    return len({member[0] for member in members}) == len(members)


def is_table(value):
    """True if any value is a table."""
    if not is_tuple_up_to(value, MOST_CLASSES) or not all(is_frame(row) for row in value):
        return False
    counts = counts_of(value)
    return all(is_filled(counts, row) for row in value)


def may_pass(table, value):
    """True if any value is a type of a table that may be passed."""
    return is_shape(counts_of(table), value, WHEN_PASSED)


def are_types(table, value, most):
    """True if any value is a tuple of at most so many types that may be passed."""
    return is_tuple_up_to(value, most) and all(may_pass(table, one) for one in value)


def check_table(table):
    """Raise InvalidTable if any value is not a table."""
    if not is_table(table):
        raise InvalidTable("this is not a table")


def check_type(table, shape):
    """Raise InvalidType if any value is not a type of the table that may be passed."""
    if not may_pass(table, shape):
        raise InvalidType("this is not a type of the table")


def check_class(table, class_number):
    """Raise InvalidClass if any value is not the number of a class."""
    if not is_number(class_number, 0, len(table) - 1):
        raise InvalidClass("this is not the number of a class")


def is_type(table, value):
    """True if any value is a type of the table, with a depth of at most 6 and at most 25 parts."""
    check_table(table)
    return may_pass(table, value)


def depth(table, shape):
    """The depth of a type."""
    check_table(table)
    check_type(table, shape)
    return depth_of(shape)


def text(table, shape):
    """The text of a type."""
    check_table(table)
    check_type(table, shape)
    return text_of(shape)


def put_in(table, shape, arguments):
    """The type with the arguments put into it."""
    check_table(table)
    check_type(table, shape)
    if not are_types(table, arguments, len(LETTERS)):
        raise InvalidArguments("this is not a tuple of at most two types of the table")
    return put(shape, arguments)
