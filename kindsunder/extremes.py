"""Which keepers are under or over all others, and which types of bounds are needed.

A goal is a tuple (number, side, closed): each keeper of the bounds with this number in a web is to keep the bounds of
the side and the closed type.
"""

from kindsunder.basics import is_closed, is_tuple_of, text_of
from kindsunder.bounds import check_bounds, is_bounds
from kindsunder.keepers import web_of
from kindsunder.scopes import tame_scope
from kindsunder.searching import searched
from kindsunder.wants import SIDES, bounds_of_side, branches_of, key_of_bounds, piece_of, types_in
from kindsunder.webs import Web

OTHER_SIDE = {"lower": "upper", "upper": "lower"}


class Goals:
    """The goals that some goals for one bounds of a web lead to, and a keeper that misses one of the first ones.

    The keeper that misses is None if all goals hold. Each origin is None, or a tuple (at, class, parameter): the goal
    with number at wants this one for this parameter of the class.
    """

    def __init__(self, web, number, other):
        self.web = web
        self.goals = []
        self.origins = []
        self.missing = None
        self._keys = {}
        for side, closed in types_in(other):
            self._add((number, side, closed), None)
        at = 0
        while at < len(self.goals) and self.missing is None:
            self._pursue(at)
            at += 1

    def _add(self, goal, origin):
        """Add a goal, if it is new."""
        key = f"{goal[0]} {goal[1]} {text_of(goal[2])}"
        if key not in self._keys:
            self._keys[key] = True
            self.goals.append(goal)
            self.origins.append(origin)

    def _pursue(self, at):
        """Add the goals that a goal wants, or find the keeper that misses it."""
        number, side, closed = self.goals[at]
        for class_number in self.web.heads_at(number):
            limits, _ = piece_of(self.web.scope, class_number, side, closed)
            if limits is None:
                self.missing = self._misses(at, class_number)
                return
            for parameter, child in enumerate(self.web.branches[number][class_number]):
                for one, inner in types_in(limits[parameter]):
                    self._add((child, one, inner), (at, class_number, parameter))

    def _misses(self, at, class_number):
        """The keeper that misses a first goal, as one of this class misses the goal with this number."""
        closed = self.web.keeper_of(self.goals[at][0], class_number)
        while self.origins[at] is not None:
            at, outer, parameter = self.origins[at]
            closed = self.web.keeper_with(self.goals[at][0], outer, parameter, closed)
        return closed


def row_key(bounds, side, closed):
    """A string for a row of covers."""
    return f"{key_of_bounds(bounds)} {side} {text_of(closed)}"


def is_barren_list(scope, value):
    """True if any value is a barren list."""
    if not isinstance(value, list) or not all(is_bounds(scope.heads, bounds) for bounds in value):
        return False
    known = {key_of_bounds(bounds): True for bounds in value}
    for bounds in value:
        for split in branches_of(scope, bounds):
            if split is not None and not any(key_of_bounds(one) in known for one in split):
                return False
    return True


def is_cover_row(heads, value):
    """True if any value is a tuple of bounds, a side and a closed type."""
    return is_tuple_of(value, 3) and is_bounds(heads, value[0]) and value[1] in SIDES and is_closed(heads, value[2])


def has_rows(known, split, limits):
    """True if there is a known row for each bounds of the split and each type of the bounds of the same parameter."""
    for bounds, inner in zip(split, limits):
        if not all(row_key(bounds, side, closed) in known for side, closed in types_in(inner)):
            return False
    return True


def is_covered(scope, known, barren, row):
    """True if a row of covers is right, by the keys of the rows and of the barren bounds."""
    bounds, side, closed = row
    for class_number, split in enumerate(branches_of(scope, bounds)):
        if split is not None and not any(key_of_bounds(one) in barren for one in split):
            limits, _ = piece_of(scope, class_number, side, closed)
            if limits is None or not has_rows(known, split, limits):
                return False
    return True


def are_covers_of(scope, bounds, other, value):
    """True if any value is covers of the bounds for the other ones."""
    if not is_tuple_of(value, 2) or not isinstance(value[0], list) or not is_barren_list(scope, value[1]):
        return False
    if not all(is_cover_row(scope.heads, row) for row in value[0]):
        return False
    known = {row_key(inner, side, closed): True for inner, side, closed in value[0]}
    barren = {key_of_bounds(one): True for one in value[1]}
    if not all(is_covered(scope, known, barren, row) for row in value[0]):
        return False
    return all(row_key(bounds, side, closed) in known for side, closed in types_in(other))


def does_cover(web, number, other):
    """True if each keeper of the bounds with this number in a web is one of the other bounds."""
    return Goals(web, number, other).missing is None


def ordered(scope, low, high, side):
    """True if class low is under class high, where the side is "lower", or over it, where it is "upper"."""
    return high in scope.instances[low] if side == "lower" else low in scope.instances[high]


def extreme_class(web, number, side):
    """The class of the bottoms (tops, for "upper") of bounds, if they have any, or None."""
    heads = web.heads_at(number)
    for class_number in heads:
        if all(ordered(web.scope, class_number, other, side) for other in heads):
            return class_number
    return None


def extreme_tasks(web, number, side):
    """The tasks (bounds, side) for the arguments of a bottom or top, or None if there is no class for it."""
    class_number = extreme_class(web, number, side)
    if class_number is None:
        return None
    found = []
    for sign, child in zip(web.scope.rows[class_number][0], web.branches[number][class_number]):
        if sign in ("+", "-"):
            found.append((child, side if sign == "+" else OTHER_SIDE[side]))
    return found


def key_of_task(task):
    """A string for a task."""
    return f"{task[0]} {task[1]}"


def candidate_of(web, number, side):
    """The one type that may be the bottom (the top, for "upper") of bounds, but for alike ones, or None.

    Arguments of parameters with the sign "=" have to be alike to all that are allowed there, so the first keepers do,
    as they do where the sign is "*". If bounds come round to themselves here, a bottom would stand in itself.
    """
    rows, _ = searched((number, side), lambda task: extreme_tasks(web, task[0], task[1]), key_of_task)
    if rows is None:
        return None
    found = []
    for here, one, used in rows:
        class_number = extreme_class(web, here, one)
        closed = web.keeper_of(here, class_number)
        inner = [found[row] for row in used]
        for parameter, sign in enumerate(web.scope.rows[class_number][0]):
            if sign in ("+", "-"):
                closed = closed[:1 + parameter] + (inner.pop(0),) + closed[2 + parameter:]
        found.append(closed)
    return found[-1]


def extreme_of(web, number, side):
    """Any bottom (top, for "upper") of the bounds with this number in a web, or None."""
    closed = candidate_of(web, number, side)
    if closed is None or not does_cover(web, number, bounds_of_side(side, closed)):
        return None
    return closed


def without(bounds, side, closed):
    """The bounds without this type on this side."""
    lower, upper = bounds
    if side == "lower":
        return (tuple([one for one in lower if one != closed]), upper)
    return (lower, tuple([one for one in upper if one != closed]))


def is_needless(scope, bounds, side, closed):
    """True if each keeper of the bounds without this type keeps them."""
    web = Web(scope, [without(bounds, side, closed)])
    return does_cover(web, 0, bounds_of_side(side, closed))


def goals_of(table, bounds, other):
    """The goals of bounds for other ones, of a table. Raises InvalidBounds for both, behind the errors of the table."""
    scope = tame_scope(table)
    check_bounds(scope, bounds)
    check_bounds(scope, other)
    return Goals(Web(scope, [bounds]), 0, other)


def covers(table, bounds, other):
    """Any covers of the bounds for the other ones, or None."""
    found = goals_of(table, bounds, other)
    if found.missing is not None:
        return None
    rows = [(found.web.rows[number], side, closed) for number, side, closed in found.goals]
    return rows, found.web.barren()


def outside(table, bounds, other):
    """Any keeper of the bounds that is no keeper of the other ones, or None."""
    return goals_of(table, bounds, other).missing


def are_covers(table, bounds, other, value):
    """True if the value is covers of the bounds for the other ones."""
    scope = tame_scope(table)
    check_bounds(scope, bounds)
    check_bounds(scope, other)
    return are_covers_of(scope, bounds, other, value)


def bottom_of(table, bounds):
    """Any bottom of the bounds, or None if there is none."""
    return extreme_of(web_of(table, bounds), 0, "lower")


def top_of(table, bounds):
    """Any top of the bounds, or None if there is none."""
    return extreme_of(web_of(table, bounds), 0, "upper")


def needless(table, bounds):
    """The ascending list of the needless types of the bounds."""
    scope = tame_scope(table)
    check_bounds(scope, bounds)
    return [(side, closed) for side, closed in types_in(bounds) if is_needless(scope, bounds, side, closed)]


def lean(table, bounds):
    """Any lean bounds with the same keepers, each type of which stands on its side of the bounds."""
    scope = tame_scope(table)
    check_bounds(scope, bounds)
    found = bounds
    for side, closed in types_in(bounds):
        # What is needed with more types beside it is needed with fewer, so each type is looked at once.
        if is_needless(scope, found, side, closed):
            found = without(found, side, closed)
    return found
