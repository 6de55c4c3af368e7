"""Which classes stand above which, and which types of them."""

from kindsunder.basics import classes_from, is_variable, super_edges, trail
from kindsunder.scopes import sound_scope
from kindsunder.tables import check_class, check_table, check_type


def classes_above(table, class_number):
    """The ascending list of the classes above the class."""
    check_table(table)
    check_class(table, class_number)
    return classes_from(table, class_number)


def way(table, class_number, other):
    """Any way from the class to the other one, or None if that is not above the class."""
    check_table(table)
    check_class(table, class_number)
    check_class(table, other)
    edges = trail(super_edges(table), class_number, other)
    if edges is None:
        return None
    return [edge[2] for edge in edges]


def above(table, shape, class_number):
    """The instance of the class above a class type, or None if there is none or the type is a variable."""
    scope = sound_scope(table)
    check_type(scope.heads, shape)
    check_class(table, class_number)
    if is_variable(shape):
        return None
    return scope.raised(shape, class_number)
