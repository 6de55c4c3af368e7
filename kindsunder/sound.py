"""What a sound table needs: an order, no obstacles, no clash and no double name."""

from kindsunder.basics import LETTERS, is_number, open_shape, parts_of, put, super_edges, trail
from kindsunder.errors import InvalidParameter, NotInOrder
from kindsunder.places import check_sign, does_allow, product_of, sign_of
from kindsunder.tables import check_class, check_table

USE_SIGNS = {"get": "+", "put": "-", "both": "="}


def order_of(table):
    """An order of the classes in which each stands behind all classes directly above it, or None."""
    placed = []
    waiting = list(range(len(table)))
    while waiting:
        ready = [one for one in waiting if all([shape[0] in placed for shape in table[one][1]])]
        if not ready:
            return None
        placed.extend(ready)
        waiting = [one for one in waiting if one not in ready]
    return placed


def ring_of(table):
    """A ring of classes, or None."""
    edges = super_edges(table)
    for low, high, _ in edges:
        back = trail(edges, high, low)
        if back is not None:
            return [low] + [edge[0] for edge in back]
    return None


def places_with(row):
    """The tuples (kind, number, sign, shape) of all types in a class, with the sign of the super or use."""
    supers = [("super", number, "+", shape) for number, shape in enumerate(row[1])]
    members = [("member", number, USE_SIGNS[one[1]], one[2]) for number, one in enumerate(row[2])]
    return supers + members


def obstacles_of(table, class_number, parameter, sign):
    """The ascending list of the obstacles."""
    found = []
    for kind, number, outer, shape in places_with(table[class_number]):
        for place, part in parts_of(shape):
            if part == LETTERS[parameter]:
                inner = product_of(outer, sign_of(table, shape, place))
                if not does_allow(sign, inner):
                    found.append((kind, number, place))
    return sorted(found)


def refuser(table, own, shape, sign):
    """A parameter in a type at a place of this sign that its own sign, one of those of its class, refuses, or None."""
    if isinstance(shape, str):
        number = LETTERS.index(shape)
        return None if does_allow(own[number], sign) else number
    for inner, outer in zip(shape[1:], table[shape[0]][0]):
        found = refuser(table, own, inner, product_of(sign, outer))
        if found is not None:
            return found
    return None


def obstacle_within(table, class_number):
    """A tuple (class, parameter, obstacle) for a parameter of the class and its own sign, or None."""
    own = table[class_number][0]
    for outer in places_with(table[class_number]):
        found = refuser(table, own, outer[3], outer[2])
        if found is not None:
            return (class_number, found, obstacles_of(table, class_number, found, own[found])[0])
    return None


def first_obstacle(table):
    """A tuple (class, parameter, obstacle) for any parameter and its own sign, or None."""
    for class_number, row in enumerate(table):
        found = obstacle_within(table, class_number) if row[0] else None
        if found is not None:
            return found
    return None


def instances_from(table, class_number, found):
    """For each class above a class, its different instances; those of the classes directly above are found already."""
    own = {class_number: [open_shape(table, class_number)]}
    for shape in table[class_number][1]:
        for high, some in found[shape[0]].items():
            known = own.setdefault(high, [])
            for one in some:
                raised = put(one, shape[1:])
                # Different instances may become equal here, so each one is compared with those just added, too.
                if raised not in known:
                    known.append(raised)
    return own


def instances_of(table, placed):
    """For each class of a table with this order, the different instances of each class above it, in dicts."""
    found = {}
    for low in placed:
        found[low] = instances_from(table, low, found)
    return found


def clash_in(instances):
    """A clash, by the instances of a table in order, or None."""
    for low in sorted(instances):
        for high in sorted(instances[low]):
            if len(instances[low][high]) > 1:
                first, second = instances[low][high][:2]
                return (low, high, first, second)
    return None


def double_name_in(table, instances):
    """A double name of a table in order, or None."""
    for low in sorted(instances):
        owners = {}
        for high in sorted(instances[low]):
            for member in table[high][2]:
                name = member[0]
                if name in owners:
                    return (low, name, owners[name], high)
                owners[name] = high
    return None


def judged(table):
    """A tuple (fault, instances) of a fault of the first form that exists, or None, and of the instances, if needed."""
    placed = order_of(table)
    if placed is None:
        return ("ring", ring_of(table)), None
    obstacle = first_obstacle(table)
    if obstacle is not None:
        return ("obstacle",) + obstacle, None
    instances = instances_of(table, placed)
    different = clash_in(instances)
    if different is not None:
        return ("clash", different), instances
    double = double_name_in(table, instances)
    if double is not None:
        return ("name", double), instances
    return None, instances


def instances_in_order(table):
    """The instances of a table. Raises NotInOrder if it is not in order."""
    placed = order_of(table)
    if placed is None:
        raise NotInOrder("the table is not in order")
    return instances_of(table, placed)


def check_parameter(table, class_number, parameter):
    """Raise InvalidParameter if any value is not the number of a parameter of the class."""
    if not is_number(parameter, 0, len(table[class_number][0]) - 1):
        raise InvalidParameter("this is not the number of a parameter of the class")


def order(table):
    """Any order of the classes in which each stands behind all classes directly above it, or None."""
    check_table(table)
    return order_of(table)


def ring(table):
    """Any ring of classes, or None."""
    check_table(table)
    return ring_of(table)


def obstacles(table, class_number, parameter, sign):
    """The ascending list of the obstacles for a parameter of a class and a sign."""
    check_table(table)
    check_class(table, class_number)
    check_parameter(table, class_number, parameter)
    check_sign(sign)
    return obstacles_of(table, class_number, parameter, sign)


def clash(table):
    """Any clash, or None."""
    check_table(table)
    return clash_in(instances_in_order(table))


def double_name(table):
    """Any double name, or None."""
    check_table(table)
    return double_name_in(table, instances_in_order(table))


def fault(table):
    """Any fault of the first form that exists, or None if the table is sound."""
    check_table(table)
    return judged(table)[0]
