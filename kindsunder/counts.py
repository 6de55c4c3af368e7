"""How many keepers bounds have, and how deep ones."""

from kindsunder.basics import is_closed, is_number, is_tuple_of
from kindsunder.bounds import check_bounds, is_bounds, is_keeper
from kindsunder.errors import InvalidNumber
from kindsunder.keepers import web_of
from kindsunder.scopes import tame_scope
from kindsunder.wants import branches_of

MOST_COUNTED = 8
MOST_DEEP = 30


def check_number(number, most):
    """Raise InvalidNumber if any value is not an integer from 0 to the greatest one."""
    if not is_number(number, 0, most):
        raise InvalidNumber(f"this is not an integer from 0 to {most}")


def combined(counts, children):
    """The number of choices of a keeper for each of some bounds, where these have so many."""
    many = 1
    for child in children:
        many = many * counts[child]
    return many


def count_at(branches, counts):
    """The number of keepers with these branches, whose arguments have so many choices."""
    return sum([combined(counts, children) for children in branches if children is not None])


def tallies_of(web, number):
    """For each number from 0 on, as far as this one, the counts of all bounds of a web."""
    found = [[0 for _ in web.rows]]
    while len(found) <= number:
        below = found[-1]
        found.append([count_at(branches, below) for branches in web.branches])
    return found


def links_of(web, number):
    """The list of tuples (class, parameter, bounds) for the rows of pumps with these bounds; none for barren ones."""
    return [(class_number, parameter, child) for class_number in web.heads_at(number)
            for parameter, child in enumerate(web.branches[number][class_number])]


def bounded(web):
    """The bounds that have no pump, each one behind all those that its links lead to."""
    found = []
    waiting = list(range(len(web.rows)))
    before = len(waiting) + 1
    while len(waiting) < before:
        before = len(waiting)
        for number in waiting:
            if all(link[2] in found for link in links_of(web, number)):
                found.append(number)
        waiting = [number for number in waiting if number not in found]
    return found


def circle_of(web, ended):
    """A tuple (links, at): links (bounds, class, parameter) of a pump, the last of which leads back to link at."""
    links, numbers, here = [], [], 0
    while here not in numbers:
        numbers.append(here)
        class_number, parameter, child = [link for link in links_of(web, here) if link[2] not in ended][0]
        links.append((here, class_number, parameter))
        here = child
    return links, numbers.index(here)


def row_of(web, link):
    """The row of a pump for a link."""
    number, class_number, parameter = link
    arguments = web.keeper_of(number, class_number)[1:]
    return (web.rows[number], class_number, parameter, arguments[:parameter] + arguments[parameter + 1:])


def deepest_of(web, ended):
    """A deepest keeper of the first bounds of a web, which have no pump, with its depth."""
    found = {}
    for number in ended:
        best = (web.firsts[number], web.depths[number])
        for class_number, parameter, child in links_of(web, number):
            closed, depth = found[child]
            if depth >= best[1]:
                best = (web.keeper_with(number, class_number, parameter, closed), depth + 1)
        found[number] = best
    return found[0]


def pumped(web, ended, number):
    """A keeper of the first bounds of a web, which have a pump, with a depth of at least number."""
    links, at = circle_of(web, ended)
    path = list(links)
    while len(path) < number:
        path.extend(links[at:])
    here, class_number, parameter = path[-1]
    closed = web.firsts[web.branches[here][class_number][parameter]]
    for here, class_number, parameter in reversed(path):
        closed = web.keeper_with(here, class_number, parameter, closed)
    return closed


def led_to(scope, row):
    """The bounds to which any value leads, if it is a row of a pump, or None."""
    if not is_tuple_of(row, 4) or not is_bounds(scope.heads, row[0]):
        return None
    bounds, class_number, parameter, others = row
    if not is_number(class_number, 0, len(scope.rows) - 1):
        return None
    limits = branches_of(scope, bounds)[class_number]
    if limits is None or not is_number(parameter, 0, len(limits) - 1) or not is_tuple_of(others, len(limits) - 1):
        return None
    for inner, closed in zip(limits[:parameter] + limits[parameter + 1:], others):
        if not is_closed(scope.heads, closed) or not is_keeper(scope, inner, closed):
            return None
    return limits[parameter]


def is_pump_of(scope, bounds, value):
    """True if any value is a pump of the bounds."""
    if not is_tuple_of(value, 2) or not isinstance(value[0], list) or not value[0]:
        return False
    rows, closed = value
    goals = [led_to(scope, row) for row in rows]
    if None in goals or rows[0][0] != bounds or goals[-1] not in [row[0] for row in rows]:
        return False
    if any(goals[at - 1] != rows[at][0] for at in range(1, len(rows))):
        return False
    return is_closed(scope.heads, closed) and is_keeper(scope, goals[-1], closed)


def count(table, bounds, number):
    """The number of closed types with at most this depth that keep the bounds."""
    web = web_of(table, bounds)
    check_number(number, MOST_COUNTED)
    return tallies_of(web, number)[number][0]


def total(table, bounds):
    """The number of all keepers of the bounds, or None if there is a pump."""
    web = web_of(table, bounds)
    ended = bounded(web)
    if 0 not in ended:
        return None
    counts = [0 for _ in web.rows]
    for number in ended:
        counts[number] = count_at(web.branches[number], counts)
    return counts[0]


def pump(table, bounds):
    """Any pump of the bounds, or None if there is none."""
    web = web_of(table, bounds)
    ended = bounded(web)
    if 0 in ended:
        return None
    links, _ = circle_of(web, ended)
    here, class_number, parameter = links[-1]
    return [row_of(web, link) for link in links], web.firsts[web.branches[here][class_number][parameter]]


def is_pump(table, bounds, value):
    """True if the value is a pump of the bounds."""
    scope = tame_scope(table)
    check_bounds(scope, bounds)
    return is_pump_of(scope, bounds, value)


def deep_keeper(table, bounds, number):
    """Any keeper of the bounds with a depth of at least number, or None if there is none."""
    web = web_of(table, bounds)
    check_number(number, MOST_DEEP)
    ended = bounded(web)
    if 0 not in ended:
        return pumped(web, ended, number)
    if web.firsts[0] is None:
        return None
    closed, depth = deepest_of(web, ended)
    return closed if depth >= number else None
