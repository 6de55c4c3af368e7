"""Finding arguments with which a class is under a type.

The search is about tasks (shape, other, sign): the shape, in which parameters of the class stand, is to be under the
other type if the sign is "+", the other type under it if it is "-", and both if it is "=". The variables of the other
type have nothing to do with the parameters.
"""

from kindsunder.basics import LETTERS, open_shape, put, text_of
from kindsunder.places import product_of
from kindsunder.scopes import tame_scope
from kindsunder.searching import searched
from kindsunder.tables import check_class, check_type


def key_of(task):
    """A string for a task."""
    return f"{text_of(task[0])} {text_of(task[1])} {task[2]}"


def matched(scope, task):
    """A tuple (class, shape, other) of the types of one class whose arguments a task compares, or None."""
    shape, other, sign = task
    if isinstance(other, str):
        return None
    if sign == "=" and shape[0] != other[0]:
        # No two different classes are above each other.
        return None
    if sign == "-":
        raised = scope.raised(other, shape[0])
        return None if raised is None else (shape[0], shape, raised)
    raised = scope.raised(shape, other[0])
    return None if raised is None else (other[0], raised, other)


def tasks_of(scope, task):
    """The list of the tasks that a task needs, or None if it is impossible."""
    if isinstance(task[0], str):
        return []
    found = matched(scope, task)
    if found is None:
        return None
    number, shape, other = found
    tasks = []
    for outer, left, right in zip(scope.rows[number][0], shape[1:], other[1:]):
        inner = product_of(task[2], outer)
        if inner != "*":
            tasks.append((left, right, inner))
    return tasks


def fitted(scope, class_number, shape):
    """A type of the class under the type, of any size, or None."""
    start = open_shape(scope.rows, class_number)
    rows, _ = searched((start, shape, "+"), lambda task: tasks_of(scope, task), key_of)
    if rows is None:
        return None
    # A parameter stands at one place at most, and what it is compared with there fits it. Any other one may stay open.
    chosen = {row[0]: row[1] for row in rows if isinstance(row[0], str)}
    return put(start, [chosen.get(letter, letter) for letter in LETTERS])


def fitting(table, class_number, shape):
    """Any type of the class under the type, or None if there is none."""
    scope = tame_scope(table)
    check_class(table, class_number)
    check_type(scope.heads, shape)
    return fitted(scope, class_number, shape)
