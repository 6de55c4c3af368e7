"""What the other modules rest on: types without any check of arguments, and ways along edges.

A type is called a shape here. The counts of a table are the numbers of parameters of its classes.
"""

LETTERS = ("a", "b")


def is_integer(value):
    """True if any value is an integer; a bool is none."""
    return isinstance(value, int) and not isinstance(value, bool)


def is_number(value, low, high):
    """True if any value is an integer from low to high."""
    return is_integer(value) and low <= value <= high


def is_variable(value):
    """True if any value is a string of one letter from a to z."""
    return isinstance(value, str) and len(value) == 1 and "a" <= value <= "z"


def counts_of(table):
    """The number of parameters of each class."""
    return [len(row[0]) for row in table]


def is_node(counts, value):
    """True if any value begins like a class type and has as many arguments as its class wants."""
    if not isinstance(value, tuple) or len(value) == 0:
        return False
    return is_number(value[0], 0, len(counts) - 1) and len(value) == 1 + counts[value[0]]


def is_shape(counts, value, limits=None):
    """True if any value is a type over classes with these counts, within the limits (depth, parts) if there are any.

    It stops at the first part too many: a value may have far more parts than one can look at.
    """
    waiting = [(value, 0)]
    many = 0
    while waiting:
        part, level = waiting.pop()
        many += 1
        if is_node(counts, part):
            level += 1
            waiting.extend([(inner, level) for inner in part[1:]])
        elif not is_variable(part):
            return False
        if limits is not None and (level > limits[0] or many > limits[1]):
            return False
    return True


def depth_of(shape):
    """The depth of a type."""
    if is_variable(shape):
        return 0
    return 1 + max([depth_of(inner) for inner in shape[1:]], default=0)


def text_of(shape):
    """The text of a type. Different types have different texts, so it serves as a key, too."""
    if is_variable(shape):
        return shape
    if len(shape) == 1:
        return str(shape[0])
    inner = ",".join([text_of(one) for one in shape[1:]])
    return f"{shape[0]}({inner})"


def put(shape, arguments):
    """The type with the arguments put into it."""
    if is_variable(shape):
        for letter, argument in zip(LETTERS, arguments):
            if letter == shape:
                return argument
        return shape
    return shape[:1] + tuple([put(inner, arguments) for inner in shape[1:]])


def open_shape(table, class_number):
    """The type of a class with its parameters as arguments."""
    return (class_number,) + LETTERS[:len(table[class_number][0])]


def parts_of(shape):
    """The tuples (place, part) of all parts of a type, in ascending order of the places."""
    found = [((), shape)]
    if not is_variable(shape):
        for number, inner in enumerate(shape[1:]):
            found.extend([((number,) + place, part) for place, part in parts_of(inner)])
    return found


def variables_in(shape):
    """The variables of a type, each as often as it stands in it."""
    return [part for _, part in parts_of(shape) if is_variable(part)]


def direct_supertypes(table, shape):
    """The supers of the class of a class type with its arguments put into them."""
    return [put(one, shape[1:]) for one in table[shape[0]][1]]


def super_edges(table):
    """An edge (class, other, number) for each super of each class: its number, and its class as other."""
    return [(low, shape[0], number) for low, row in enumerate(table) for number, shape in enumerate(row[1])]


def trail(edges, start, goal):
    """The edges (from, to, ..) along a shortest way from start to goal, or None if there is no way."""
    trails = {start: []}
    waiting = [start]
    while waiting and goal not in trails:
        here = waiting.pop(0)
        for edge in edges:
            if edge[0] == here and edge[1] not in trails:
                trails[edge[1]] = trails[here] + [edge]
                waiting.append(edge[1])
    return trails.get(goal)


def classes_from(table, class_number):
    """The classes above a class, ascending."""
    edges = super_edges(table)
    return [other for other in range(len(table)) if trail(edges, class_number, other) is not None]
