"""Tables of classes, and the types of a table."""

from kindsunder.basics import LETTERS, depth_of, heads_of, is_number, is_tuple_up_to, is_variable, parts_within
from kindsunder.basics import put, text_of
from kindsunder.errors import InvalidArguments, InvalidClass, InvalidTable, InvalidType

SIGNS = ("+", "-", "=", "*")
USES = ("get", "put", "both")
NAMES = (0, 1, 2, 3, 4, 5, 6, 7, 8, 9)
MOST_CLASSES = 5
MOST_SIGNS = 2
MOST_SUPERS = 2
MOST_MEMBERS = 3
# The greatest depth and number of parts: of a type in a class, and of one that is passed.
DEPTH_WITHIN = 3
PARTS_WITHIN = 5
DEPTH_PASSED = 6
PARTS_PASSED = 25
# The greatest number of types in a list of types that is passed.
MOST_TYPES = 4


def is_sign(value):
    """True if any value is a sign."""
    return value in SIGNS


def are_signs(value):
    """True if any value is a tuple of at most two signs."""
    if not isinstance(value, tuple) or len(value) > MOST_SIGNS:
        return False
    for sign in value:
        if sign not in SIGNS:
            return False
    return True


def is_name(value):
    """True if any value is an integer from 0 to 9."""
    return value in NAMES and not isinstance(value, bool)


def is_frame(value):
    """True if any value has the form of a class, whatever its supers and members are."""
    if not isinstance(value, tuple) or len(value) != 3 or not are_signs(value[0]):
        return False
    supers, members = value[1:]
    if not isinstance(supers, tuple) or len(supers) > MOST_SUPERS:
        return False
    return isinstance(members, tuple) and len(members) <= MOST_MEMBERS


def is_super(heads, letters, value):
    """True if any value is a type that may be a super of a class with these parameters."""
    leaves = []
    if not isinstance(value, tuple) or parts_within(heads, value, DEPTH_WITHIN, leaves) > PARTS_WITHIN:
        return False
    for leaf in leaves:
        if leaf not in letters or leaves.count(leaf) > 1:
            return False
    return True


def are_members(heads, letters, value):
    """True if the entries of a tuple may be the members of a class with these parameters."""
    names, leaves = [], []
    for member in value:
        if not isinstance(member, tuple) or len(member) != 3:
            return False
        name, use, shape = member
        if use not in USES or name not in NAMES or isinstance(name, bool) or name in names:
            return False
        names.append(name)
        if not isinstance(shape, tuple):
            leaves.append(shape)
        elif parts_within(heads, shape, DEPTH_WITHIN, leaves) > PARTS_WITHIN:
            return False
    for leaf in leaves:
        if leaf not in letters:
            return False
    return True


def table_heads(value):
    """The heads of any value that is a table, or None. Nearly every call begins with this, so it is to be quick."""
    if not isinstance(value, tuple) or len(value) > MOST_CLASSES:
        return None
    for row in value:
        if not is_frame(row):
            return None
    heads = heads_of(value)
    for signs, supers, members in value:
        letters = LETTERS[:len(signs)]
        for one in supers:
            if not is_super(heads, letters, one):
                return None
        if members and not are_members(heads, letters, members):
            return None
    return heads


def may_pass(heads, value):
    """True if any value is a type, of a table with these heads, that may be passed."""
    if not isinstance(value, tuple):
        return is_variable(value)
    leaves = []
    if parts_within(heads, value, DEPTH_PASSED, leaves) > PARTS_PASSED:
        return False
    for leaf in leaves:
        if not is_variable(leaf):
            return False
    return True


def are_types(heads, value, most):
    """True if any value is a tuple of at most so many types that may be passed."""
    return is_tuple_up_to(value, most) and all(may_pass(heads, one) for one in value)


def check_table(table):
    """Return the heads of a table. Raises InvalidTable if any value is none."""
    heads = table_heads(table)
    if heads is None:
        raise InvalidTable("this is not a table")
    return heads


def check_type(heads, shape):
    """Raise InvalidType if any value is not a type, of a table with these heads, that may be passed."""
    if not may_pass(heads, shape):
        raise InvalidType("this is not a type of the table")


def check_class(table, class_number):
    """Raise InvalidClass if any value is not the number of a class."""
    if not is_number(class_number, 0, len(table) - 1):
        raise InvalidClass("this is not the number of a class")


def is_table(value):
    """True if any value is a table."""
    return table_heads(value) is not None


def is_type(table, value):
    """True if any value is a type of the table, with a depth of at most 6 and at most 25 parts."""
    return may_pass(check_table(table), value)


def depth(table, shape):
    """The depth of a type."""
    check_type(check_table(table), shape)
    return depth_of(shape)


def text(table, shape):
    """The text of a type."""
    check_type(check_table(table), shape)
    return text_of(shape)


def put_in(table, shape, arguments):
    """The type with the arguments put into it."""
    heads = check_table(table)
    check_type(heads, shape)
    if not are_types(heads, arguments, len(LETTERS)):
        raise InvalidArguments("this is not a tuple of at most two types of the table")
    return put(shape, arguments)
