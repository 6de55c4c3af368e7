"""Tables of classes, and the types of a table."""

from kindsunder.basics import LETTERS, depth_of, heads_of, is_number, is_tuple_of, is_tuple_up_to, is_variable
from kindsunder.basics import parts_within, put, text_of
from kindsunder.errors import InvalidArguments, InvalidClass, InvalidTable, InvalidType

SIGNS = ("+", "-", "=", "*")
USES = ("get", "put", "both")
NAMES = (0, 1, 2, 3, 4, 5, 6, 7, 8, 9)
MOST_CLASSES = 5
MOST_SIGNS = 2
MOST_SUPERS = 2
MOST_MEMBERS = 3
# The greatest depth and number of parts: of a type in a class, and of one that is passed.
DEPTH_WITHIN = 3
PARTS_WITHIN = 5
DEPTH_PASSED = 6
PARTS_PASSED = 25
# The greatest number of types in a list of types that is passed.
MOST_TYPES = 4


def is_sign(value):
    """True if any value is a sign."""
    return value in SIGNS


def are_signs(value):
    """True if any value is a tuple of at most two signs."""
    if not is_tuple_up_to(value, MOST_SIGNS):
        return False
    for sign in value:
        if sign not in SIGNS:
            return False
    return True


def is_frame(value):
    """True if any value has the form of a class, whatever its supers and members are."""
    if not is_tuple_of(value, 3) or not are_signs(value[0]):
        return False
    return is_tuple_up_to(value[1], MOST_SUPERS) and is_tuple_up_to(value[2], MOST_MEMBERS)


def is_super(heads, letters, value):
    """True if any value is a type that may be a super of a class with these parameters."""
    leaves = []
    if not isinstance(value, tuple) or parts_within(heads, value, DEPTH_WITHIN, leaves) > PARTS_WITHIN:
        return False
    for leaf in leaves:
        if leaf not in letters or leaves.count(leaf) > 1:
            return False
    return True


def is_inner(heads, letters, value):
    """True if any value is a type that may stand in a class with these parameters."""
    if not isinstance(value, tuple):
        return value in letters
    leaves = []
    if parts_within(heads, value, DEPTH_WITHIN, leaves) > PARTS_WITHIN:
        return False
    for leaf in leaves:
        if leaf not in letters:
            return False
    return True


def is_name(value):
    """True if any value is an integer from 0 to 9."""
    return value in NAMES and not isinstance(value, bool)


def is_member(heads, letters, value):
    """True if any value is a tuple that may be a member of a class with these parameters."""
    if not is_tuple_of(value, 3):
        return False
    name, use, shape = value
    return use in USES and is_name(name) and is_inner(heads, letters, shape)


def is_filled(heads, row):
    """True if the supers and the members of what has the form of a class are right."""
    signs, supers, members = row
    letters = LETTERS[:len(signs)]
    for one in supers:
        if not is_super(heads, letters, one):
            return False
    for one in members:
        if not is_member(heads, letters, one):
            return False
    return len({member[0] for member in members}) == len(members)


def is_table(value):
    """True if any value is a table."""
    if not is_tuple_up_to(value, MOST_CLASSES):
        return False
    for row in value:
        if not is_frame(row):
            return False
    heads = heads_of(value)
    for row in value:
        if not is_filled(heads, row):
            return False
    return True


def may_pass(table, value):
    """True if any value is a type of a table that may be passed."""
    if not isinstance(value, tuple):
        return is_variable(value)
    leaves = []
    if parts_within(heads_of(table), value, DEPTH_PASSED, leaves) > PARTS_PASSED:
        return False
    for leaf in leaves:
        if not is_variable(leaf):
            return False
    return True


def are_types(table, value, most):
    """True if any value is a tuple of at most so many types that may be passed."""
    return is_tuple_up_to(value, most) and all(may_pass(table, one) for one in value)


def check_table(table):
    """Raise InvalidTable if any value is not a table."""
    if not is_table(table):
        raise InvalidTable("this is not a table")


def check_type(table, shape):
    """Raise InvalidType if any value is not a type of the table that may be passed."""
    if not may_pass(table, shape):
        raise InvalidType("this is not a type of the table")


def check_class(table, class_number):
    """Raise InvalidClass if any value is not the number of a class."""
    if not is_number(class_number, 0, len(table) - 1):
        raise InvalidClass("this is not the number of a class")


def is_type(table, value):
    """True if any value is a type of the table, with a depth of at most 6 and at most 25 parts."""
    check_table(table)
    return may_pass(table, value)


def depth(table, shape):
    """The depth of a type."""
    check_table(table)
    check_type(table, shape)
    return depth_of(shape)


def text(table, shape):
    """The text of a type."""
    check_table(table)
    check_type(table, shape)
    return text_of(shape)


def put_in(table, shape, arguments):
    """The type with the arguments put into it."""
    check_table(table)
    check_type(table, shape)
    if not are_types(table, arguments, len(LETTERS)):
        raise InvalidArguments("this is not a tuple of at most two types of the table")
    return put(shape, arguments)
