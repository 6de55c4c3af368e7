"""Splits of bounds by a class, bars where a class is barred, and families of bounds."""

from kindsunder.bounds import check_bounds
from kindsunder.scopes import tame_scope
from kindsunder.tables import check_class
from kindsunder.wants import is_bar_from, split_of, start_of, types_in
from kindsunder.webs import Web


def class_scope(table, bounds, class_number):
    """The scope of a table. Raises InvalidBounds and InvalidClass, behind the errors of the table."""
    scope = tame_scope(table)
    check_bounds(scope, bounds)
    check_class(table, class_number)
    return scope


def is_bar_of(scope, bounds, class_number, value):
    """True if any value is a bar of the class for the bounds."""
    starts = [start_of(scope, class_number, side, closed) for side, closed in types_in(bounds)]
    return is_bar_from(scope, starts, value)


def split(table, bounds, class_number):
    """The split of the bounds by the class, or None if it is barred."""
    return split_of(class_scope(table, bounds, class_number), bounds, class_number)[0]


def bar(table, bounds, class_number):
    """Any bar of the class for the bounds, or None if it is not barred."""
    return split_of(class_scope(table, bounds, class_number), bounds, class_number)[1]


def is_bar(table, bounds, class_number, value):
    """True if the value is a bar of the class for the bounds."""
    return is_bar_of(class_scope(table, bounds, class_number), bounds, class_number, value)


def family(table, bounds):
    """The ascending list of the family of the bounds."""
    scope = tame_scope(table)
    check_bounds(scope, bounds)
    return sorted(Web(scope, [bounds]).rows)
