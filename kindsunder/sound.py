"""What a sound table needs: an order, no obstacles, no clash and no double name."""

from kindsunder.basics import LETTERS, classes_from, is_number, open_shape, parts_of, put, super_edges, trail
from kindsunder.errors import InvalidParameter, NotInOrder, Unsound
from kindsunder.places import check_sign, does_allow, product_of, sign_of
from kindsunder.tables import check_class, check_table

USE_SIGNS = {"get": "+", "put": "-", "both": "="}


def is_ready(table, placed, class_number):
    """True if all classes directly above a class are placed."""
    return all(shape[0] in placed for shape in table[class_number][1])


def order_of(table):
    """An order of the classes in which each stands behind all classes directly above it, or None."""
    placed = []
    waiting = list(range(len(table)))
    while waiting:
        ready = [one for one in waiting if is_ready(table, placed, one)]
        if not ready:
            return None
        placed.extend(ready)
        waiting = [one for one in waiting if one not in ready]
    return placed


def ring_of(table):
    """A ring of classes, or None."""
    edges = super_edges(table)
    for low, high, _ in edges:
        back = trail(edges, high, low)
        if back is not None:
            return [low] + [edge[0] for edge in back]
    return None


def places_with(row):
    """The tuples (kind, number, place, sign, shape) of all types in a class, with the sign of the super or use."""
    supers = [("super", number, "+", shape) for number, shape in enumerate(row[1])]
    members = [("member", number, USE_SIGNS[one[1]], one[2]) for number, one in enumerate(row[2])]
    return supers + members


def obstacles_of(table, class_number, parameter, sign):
    """The ascending list of the obstacles."""
    found = []
    for kind, number, outer, shape in places_with(table[class_number]):
        for place, part in parts_of(shape):
            if part == LETTERS[parameter]:
                inner = product_of(outer, sign_of(table, shape, place))
                if not does_allow(sign, inner):
                    found.append((kind, number, place))
    return sorted(found)


def first_obstacle(table):
    """A tuple (class, parameter, obstacle) for a parameter and its own sign, or None."""
    for class_number, row in enumerate(table):
        for parameter, sign in enumerate(row[0]):
            found = obstacles_of(table, class_number, parameter, sign)
            if found:
                return (class_number, parameter, found[0])
    return None


def instances_of(table):
    """For all classes (low, high) of a table in order, high above low, the different instances of high above low."""
    found = {}
    for low in order_of(table):
        found[(low, low)] = [open_shape(table, low)]
        for shape in table[low][1]:
            for high in classes_from(table, shape[0]):
                known = found.setdefault((low, high), [])
                raised = [put(one, shape[1:]) for one in found[(shape[0], high)]]
                known.extend([one for one in raised if one not in known])
    return found


def clash_of(table):
    """A clash of a table in order, or None."""
    found = instances_of(table)
    for low, high in sorted(found):
        if len(found[(low, high)]) > 1:
            first, second = found[(low, high)][:2]
            return (low, high, first, second)
    return None


def double_name_of(table):
    """A double name of a table in order, or None."""
    for low in range(len(table)):
        owners = {}
        for high in classes_from(table, low):
            for member in table[high][2]:
                name = member[0]
                if name in owners:
                    return (low, name, owners[name], high)
                owners[name] = high
    return None


def fault_of(table):
    """A fault of the first form that exists, or None."""
    circle = ring_of(table)
    if circle is not None:
        return ("ring", circle)
    obstacle = first_obstacle(table)
    if obstacle is not None:
        return ("obstacle",) + obstacle
    different = clash_of(table)
    if different is not None:
        return ("clash", different)
    double = double_name_of(table)
    if double is not None:
        return ("name", double)
    return None


def check_sound(table):
    """Raise Unsound if a table has a fault."""
    found = fault_of(table)
    if found is not None:
        raise Unsound(found)


def check_order(table):
    """Raise NotInOrder if a table is not in order."""
    if order_of(table) is None:
        raise NotInOrder("the table is not in order")


def order(table):
    """Any order of the classes in which each stands behind all classes directly above it, or None."""
    check_table(table)
    return order_of(table)


def ring(table):
    """Any ring of classes, or None."""
    check_table(table)
    return ring_of(table)


def obstacles(table, class_number, parameter, sign):
    """The ascending list of the obstacles for a parameter of a class and a sign."""
    check_table(table)
    check_class(table, class_number)
    if not is_number(parameter, 0, len(table[class_number][0]) - 1):
        raise InvalidParameter("this is not the number of a parameter of the class")
    check_sign(sign)
    return obstacles_of(table, class_number, parameter, sign)


def clash(table):
    """Any clash, or None."""
    check_table(table)
    check_order(table)
    return clash_of(table)


def double_name(table):
    """Any double name, or None."""
    check_table(table)
    check_order(table)
    return double_name_of(table)


def fault(table):
    """Any fault of the first form that exists, or None if the table is sound."""
    check_table(table)
    return fault_of(table)
