"""What the other modules rest on: types without any check of arguments, and ways along edges.

A type is called a shape here. The heads of a table say which class numbers a class type of some length may begin with.
"""

LETTERS = ("a", "b")
# The greatest length of a class type: its class and two arguments.
MOST_ENTRIES = 3
# More parts than any limit allows.
TOO_MANY = 99


def is_integer(value):
    """True if any value is an integer; a bool is none."""
    return isinstance(value, int) and not isinstance(value, bool)


def is_number(value, low, high):
    """True if any value is an integer from low to high."""
    return is_integer(value) and low <= value <= high


def is_variable(value):
    """True if any value is a string of one letter from a to z."""
    return isinstance(value, str) and len(value) == 1 and "a" <= value <= "z"


def is_tuple_of(value, length):
    """True if any value is a tuple with this length."""
    return isinstance(value, tuple) and len(value) == length


def is_tuple_up_to(value, most):
    """True if any value is a tuple with at most so many entries."""
    return isinstance(value, tuple) and len(value) <= most


def heads_of(table):
    """For each length of a class type, the numbers of the classes whose types have this length."""
    heads = ([], [], [], [])
    for number, row in enumerate(table):
        heads[len(row[0]) + 1].append(number)
    return heads


def is_node(heads, value):
    """True if any value begins like a class type and has as many arguments as its class wants."""
    if not isinstance(value, tuple) or not 0 < len(value) <= MOST_ENTRIES:
        return False
    return value[0] in heads[len(value)] and not isinstance(value[0], bool)


def is_shape(heads, value):
    """True if any value is a type, of any size, over classes with these heads."""
    waiting = [value]
    while waiting:
        part = waiting.pop()
        if is_node(heads, part):
            waiting.extend(part[1:])
        elif not is_variable(part):
            return False
    return True


def is_closed(heads, value):
    """True if any value is a type without variables, of any size."""
    waiting = [value]
    while waiting:
        part = waiting.pop()
        if not is_node(heads, part):
            return False
        waiting.extend(part[1:])
    return True


def parts_within(heads, value, room, leaves):
    """The number of parts of a tuple, if it is a type with at most this depth but for its leaves; else too many.

    What stands in it and is no tuple is added to the leaves: the caller knows which variables they may be. This
    is the greater part of the work of nearly every call, so the test of is_node is written out here.
    """
    wide = len(value)
    if not 0 < wide <= MOST_ENTRIES or value[0] not in heads[wide] or isinstance(value[0], bool) or room == 0:
        return TOO_MANY
    if wide == 1:
        return 1
    many = wide
    for inner in value[1:]:
        if isinstance(inner, tuple):
            many += parts_within(heads, inner, room - 1, leaves) - 1
        else:
            leaves.append(inner)
    return many


def depth_of(shape):
    """The depth of a type."""
    if isinstance(shape, str):
        return 0
    deepest = 0
    for inner in shape[1:]:
        below = depth_of(inner)
        if below > deepest:
            deepest = below
    return 1 + deepest


def text_of(shape):
    """The text of a type. Different types have different texts, so it serves as a key, too."""
    if isinstance(shape, str):
        return shape
    if len(shape) == 1:
        return str(shape[0])
    if len(shape) == 2:
        return f"{shape[0]}({text_of(shape[1])})"
    return f"{shape[0]}({text_of(shape[1])},{text_of(shape[2])})"


def put(shape, arguments):
    """The type with the arguments put into it."""
    if isinstance(shape, str):
        for letter, argument in zip(LETTERS, arguments):
            if letter == shape:
                return argument
        return shape
    if len(shape) == 1:
        return shape
    return shape[:1] + tuple([put(inner, arguments) for inner in shape[1:]])


def open_shape(table, class_number):
    """The type of a class with its parameters as arguments."""
    return (class_number,) + LETTERS[:len(table[class_number][0])]


def parts_of(shape):
    """The tuples (place, part) of all parts of a type, in ascending order of the places."""
    found = [((), shape)]
    if not is_variable(shape):
        for number, inner in enumerate(shape[1:]):
            found.extend([((number,) + place, part) for place, part in parts_of(inner)])
    return found


def variables_in(shape):
    """The variables of a type, each as often as it stands in it."""
    return [part for _, part in parts_of(shape) if is_variable(part)]


def direct_supertypes(table, shape):
    """The supers of the class of a class type with its arguments put into them."""
    return [put(one, shape[1:]) for one in table[shape[0]][1]]


def super_edges(table):
    """An edge (class, other, number) for each super of each class: its number, and its class as other."""
    return [(low, shape[0], number) for low, row in enumerate(table) for number, shape in enumerate(row[1])]


def trail(edges, start, goal):
    """The edges (from, to, ..) along a shortest way from start to goal, or None if there is no way."""
    trails = {start: []}
    waiting = [start]
    while waiting and goal not in trails:
        here = waiting.pop(0)
        for edge in edges:
            if edge[0] == here and edge[1] not in trails:
                trails[edge[1]] = trails[here] + [edge]
                waiting.append(edge[1])
    return trails.get(goal)


def classes_from(table, class_number):
    """The classes above a class, ascending."""
    edges = super_edges(table)
    return [other for other in range(len(table)) if trail(edges, class_number, other) is not None]
