"""Which classes stand above which, and which types of them."""

from kindsunder.basics import classes_from, direct_supertypes, is_variable, super_edges, trail
from kindsunder.sound import check_sound
from kindsunder.tables import check_class, check_table, check_type


def way_of(table, class_number, other):
    """A way from a class to another one, or None."""
    edges = trail(super_edges(table), class_number, other)
    if edges is None:
        return None
    return [edge[2] for edge in edges]


def instance_above(table, shape, class_number):
    """The instance of the class above a class type in a sound table, or None."""
    numbers = way_of(table, shape[0], class_number)
    if numbers is None:
        return None
    # All ways lead to the same instance, as a sound table has no clash.
    for number in numbers:
        shape = direct_supertypes(table, shape)[number]
    return shape


def classes_above(table, class_number):
    """The ascending list of the classes above the class."""
    check_table(table)
    check_class(table, class_number)
    return classes_from(table, class_number)


def way(table, class_number, other):
    """Any way from the class to the other one, or None if that is not above the class."""
    check_table(table)
    check_class(table, class_number)
    check_class(table, other)
    return way_of(table, class_number, other)


def above(table, shape, class_number):
    """The instance of the class above a class type, or None if there is none or the type is a variable."""
    check_table(table)
    check_sound(table)
    check_type(table, shape)
    check_class(table, class_number)
    if is_variable(shape):
        return None
    return instance_above(table, shape, class_number)
