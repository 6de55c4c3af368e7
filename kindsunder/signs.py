"""The best signs of the parameters, and the reasons for them. The signs of the table itself do not count here."""

from kindsunder.basics import LETTERS, is_variable, parts_of
from kindsunder.errors import InvalidSign
from kindsunder.places import product_of
from kindsunder.sound import check_parameter
from kindsunder.tables import check_class, check_table

# For each use of a member the signs with which a reason may start.
STARTS = {"get": ("+",), "put": ("-",), "both": ("+", "-")}


def steps_to(shape, place):
    """The tuples (class, parameter) on the way to a place in a type, the outermost first."""
    found = []
    for number in place:
        found.append((shape[0], number))
        shape = shape[1 + number]
    return found


def types_within(row):
    """The tuples (kind, number, starts, shape) of the supers and members of a class."""
    supers = [("super", number, ("+",), shape) for number, shape in enumerate(row[1])]
    return supers + [("member", number, STARTS[one[1]], one[2]) for number, one in enumerate(row[2])]


def stands_of(table):
    """A tuple (class, parameter, kind, number, place, starts, steps) for each place where a parameter stands."""
    found = []
    for class_number, row in enumerate(table):
        for kind, number, starts, shape in types_within(row):
            for place, part in parts_of(shape):
                if is_variable(part):
                    steps = steps_to(shape, place)
                    found.append((class_number, LETTERS.index(part), kind, number, place, starts, steps))
    return found


def choices_of(steps, numbers):
    """The tuples (way, used) of the product of known uses of the parameters on a way, and the numbers of their rows."""
    found = [("+", ())]
    for class_number, parameter in steps:
        longer = []
        for way in ("+", "-"):
            number = numbers.get((class_number, parameter, way))
            if number is not None:
                longer.extend([(product_of(outer, way), used + (number,)) for outer, used in found])
        found = longer
    return found


def rows_of(table):
    """A list of rows of reasons, each of which uses earlier ones, with one row for each use of the table."""
    stands = stands_of(table)
    rows, numbers = [], {}
    before = -1
    while before < len(rows):
        before = len(rows)
        for class_number, parameter, kind, number, place, starts, steps in stands:
            choices = [(start, one) for one in choices_of(steps, numbers) for start in starts]
            for start, (inner, used) in choices:
                use = (class_number, parameter, product_of(start, inner))
                if use not in numbers:
                    numbers[use] = len(rows)
                    rows.append(use + (kind, number, start, place, used))
    return rows


def only_used(rows):
    """The rows of a reason without those that its last row does not rest on."""
    wanted = {len(rows) - 1: True}
    for at in reversed(range(len(rows))):
        if at in wanted:
            for number in rows[at][7]:
                wanted[number] = True
    kept = sorted(wanted)
    places = {at: number for number, at in enumerate(kept)}
    return [rows[at][:7] + (tuple([places[number] for number in rows[at][7]]),) for at in kept]


def best_sign(known, class_number, parameter):
    """The best sign of a parameter, by the list of the uses."""
    ways = [way for way in ("+", "-") if (class_number, parameter, way) in known]
    if len(ways) == 2:
        return "="
    return ways[0] if ways else "*"


def best_of(table):
    """A tuple with the tuple of the best signs of each class."""
    known = [row[:3] for row in rows_of(table)]
    signs = [[best_sign(known, number, at) for at in range(len(row[0]))] for number, row in enumerate(table)]
    return tuple([tuple(one) for one in signs])


def improved(table):
    """The table with the best signs."""
    return tuple([(signs,) + row[1:] for signs, row in zip(best_of(table), table)])


def uses(table):
    """The ascending list of the uses of the table."""
    check_table(table)
    return sorted([row[:3] for row in rows_of(table)])


def best_signs(table):
    """A tuple with the tuple of the best signs of each class."""
    check_table(table)
    return best_of(table)


def with_best(table):
    """The table with the best signs."""
    check_table(table)
    return improved(table)


def reason(table, class_number, parameter, way_sign):
    """Any reason for the use, or None if there is none."""
    check_table(table)
    check_class(table, class_number)
    check_parameter(table, class_number, parameter)
    if way_sign not in ("+", "-"):
        raise InvalidSign("this is not a way")
    rows = rows_of(table)
    for at, row in enumerate(rows):
        if row[:3] == (class_number, parameter, way_sign):
            return only_used(rows[:at + 1])
    return None
