"""Checking certificates: of faults, derivations, refusals, levels, growth, roads, reasons and programs.

For each form a function returns the number of the first condition that does not hold, or None. What a
certificate has behind its table may be any value.
"""

from kindsunder.basics import LETTERS, heads_of, is_integer, is_number, is_shape, is_tuple_of
from kindsunder.closures import moves_of
from kindsunder.errors import NotACertificate
from kindsunder.growth import steps_of
from kindsunder.places import is_place, part_at, product_of
from kindsunder.programs import first_misfit, is_program_for
from kindsunder.scopes import sound_scope, tame_scope
from kindsunder.signs import STARTS, steps_to
from kindsunder.sound import clash_in, first_obstacle, instances_of, obstacles_of, order_of
from kindsunder.tables import check_table, may_pass
from kindsunder.under import does_derive, is_road

FAULTS = ("ring", "obstacle", "clash", "name")
# The number of entries of a certificate, by its word.
ENTRIES = {"fault": 3, "derivation": 5, "refusal": 5, "levels": 3, "growth": 3, "road": 3, "reason": 6, "program": 4}


def is_fault_form(value):
    """True if any value is a tuple of a word for a form of fault and as many more entries as this form has."""
    if not isinstance(value, tuple) or len(value) == 0 or value[0] not in FAULTS:
        return False
    return len(value) == (4 if value[0] == "obstacle" else 2)


def is_ring(table, value):
    """True if any value is a ring of classes."""
    if not isinstance(value, list) or not value or not all(is_number(one, 0, len(table) - 1) for one in value):
        return False
    if len(set(value)) < len(value):
        return False
    return all(value[at] in [shape[0] for shape in table[value[at - 1]][1]] for at in range(len(value)))


def is_obstacle(table, class_number, parameter, value):
    """True if any values are a class, a parameter of it, and an obstacle for it and its own sign."""
    if not is_number(class_number, 0, len(table) - 1):
        return False
    signs = table[class_number][0]
    if not is_number(parameter, 0, len(signs) - 1) or not is_tuple_of(value, 3):
        return False
    # A bool equals an integer, so the integers are looked at on their own.
    if not is_integer(value[1]) or not isinstance(value[2], tuple) or not all(is_integer(one) for one in value[2]):
        return False
    return value in obstacles_of(table, class_number, parameter, signs[parameter])


def is_clash(table, value):
    """True if any value is a clash of the table, which is in order."""
    if not is_tuple_of(value, 4) or not is_integer(value[0]) or not is_integer(value[1]):
        return False
    heads = heads_of(table)
    if not is_shape(heads, value[2]) or not is_shape(heads, value[3]):
        return False
    some = instances_of(table, order_of(table)).get(value[0], {}).get(value[1], [])
    return value[2] in some and value[3] in some and value[2] != value[3]


def is_double_name(table, value):
    """True if any value is a double name of the table, which is in order."""
    if not is_tuple_of(value, 4) or not all(is_integer(one) for one in value):
        return False
    class_number, name, first, second = value
    found = instances_of(table, order_of(table)).get(class_number, {})
    if first not in found or second not in found or not first < second:
        return False
    return all(name in [member[0] for member in table[one][2]] for one in (first, second))


def is_fault(table, value):
    """True if what has the form of a fault is one."""
    if value[0] == "ring":
        return is_ring(table, value[1])
    if value[0] == "obstacle":
        return is_obstacle(table, value[1], value[2], value[3])
    if order_of(table) is None:
        return False
    return is_clash(table, value[1]) if value[0] == "clash" else is_double_name(table, value[1])


def has_earlier(table, word):
    """True if the table has a fault by a word ahead of this one."""
    placed = order_of(table)
    number = FAULTS.index(word)
    if number > 0 and placed is None:
        return True
    if number > 1 and first_obstacle(table) is not None:
        return True
    return number > 2 and clash_in(instances_of(table, placed)) is not None


def wrong_fault(table, entries):
    """The first condition of "fault" that does not hold, or None."""
    value = entries[0]
    if not is_fault_form(value):
        return 0
    if not is_fault(table, value):
        return 1
    return 2 if has_earlier(table, value[0]) else None


def wrong_derivation(scope, entries):
    """The first condition of "derivation" that does not hold, or None."""
    s, t, rows = entries
    if not may_pass(scope.heads, s) or not may_pass(scope.heads, t):
        return 0
    return None if does_derive(scope, s, t, rows) else 1


def wrong_refusal(scope, entries):
    """The first condition of "refusal" that does not hold, or None."""
    s, t, road = entries
    if not may_pass(scope.heads, s) or not may_pass(scope.heads, t):
        return 0
    return None if is_road(scope, s, t, road) else 1


def are_levels(table, value):
    """True if any value has an integer, not less than 0, for each parameter of each class."""
    if not is_tuple_of(value, len(table)):
        return False
    for row, one in zip(table, value):
        if not is_tuple_of(one, len(row[0])) or not all(is_integer(level) and level >= 0 for level in one):
            return False
    return True


def wrong_levels(table, entries):
    """The first condition of "levels" that does not hold, or None."""
    value = entries[0]
    if not are_levels(table, value):
        return 0
    rises = [(step[4], value[step[2]][step[3]] - value[step[0]][step[1]]) for step in steps_of(table)]
    if not all(growing or rise >= 0 for growing, rise in rises):
        return 1
    return None if all(rise > 0 for growing, rise in rises if growing) else 2


def is_step(known, value):
    """True if any value is one of the known steps."""
    if not is_tuple_of(value, 5) or not isinstance(value[4], bool):
        return False
    return all(is_integer(one) for one in value[:4]) and value in known


def wrong_growth(table, entries):
    """The first condition of "growth" that does not hold, or None."""
    value = entries[0]
    known = steps_of(table)
    if not isinstance(value, list) or not value or not all(is_step(known, one) for one in value):
        return 0
    if not all(value[at - 1][2:4] == value[at][:2] for at in range(len(value))):
        return 1
    return None if any(one[4] for one in value) else 2


def wrong_road(table, entries):
    """The first condition of "road" that does not hold, or None."""
    value = entries[0]
    heads = heads_of(table)
    if not isinstance(value, list) or not value or not all(is_shape(heads, one) for one in value):
        return 0
    return None if all(value[at] in moves_of(table, value[at - 1]) for at in range(1, len(value))) else 1


def shape_named(table, class_number, kind, number):
    """A tuple (starts, type) of the super or member of a class that any values name, or None."""
    signs, supers, members = table[class_number]
    if kind == "super" and is_number(number, 0, len(supers) - 1):
        return (("+",), supers[number])
    if kind == "member" and is_number(number, 0, len(members) - 1):
        return (STARTS[members[number][1]], members[number][2])
    return None


def does_stand(table, value):
    """True if any value is a tuple of eight entries that names a parameter and a place where it stands."""
    if not is_tuple_of(value, 8) or not is_number(value[0], 0, len(table) - 1):
        return False
    class_number, parameter = value[:2]
    if not is_number(parameter, 0, len(table[class_number][0]) - 1):
        return False
    named = shape_named(table, class_number, value[3], value[4])
    if named is None or not is_place(named[1], value[6]):
        return False
    return part_at(named[1], value[6]) == LETTERS[parameter]


def is_reasoned(table, rows, at):
    """True if start, way and used of a row are right, where those of the earlier rows are."""
    way, kind, number, start, place, used = rows[at][2:]
    starts, shape = shape_named(table, rows[at][0], kind, number)
    steps = steps_to(shape, place)
    if start not in starts or not is_tuple_of(used, len(steps)):
        return False
    found = start
    for one, step in zip(used, steps):
        if not is_number(one, 0, at - 1) or rows[one][:2] != step:
            return False
        found = product_of(found, rows[one][2])
    return way == found


def wrong_reason(table, entries):
    """The first condition of "reason" that does not hold, or None."""
    class_number, parameter, way, rows = entries
    if not isinstance(rows, list) or not rows or not all(does_stand(table, row) for row in rows):
        return 0
    if not all(is_reasoned(table, rows, at) for at in range(len(rows))):
        return 1
    if not is_integer(class_number) or not is_integer(parameter):
        return 2
    return None if rows[-1][:3] == (class_number, parameter, way) else 2


def wrong_program(scope, entries):
    """The first condition of "program" that does not hold, or None."""
    program, number = entries
    if not is_program_for(scope.rows, program):
        return 0
    found = first_misfit(scope, program)
    if found is None:
        return None if number is None else 1
    return None if is_integer(number) and number == found else 1


PLAIN = {
    "fault": wrong_fault, "levels": wrong_levels, "growth": wrong_growth, "road": wrong_road, "reason": wrong_reason}
SCOPED = {"derivation": wrong_derivation, "refusal": wrong_refusal, "program": wrong_program}


def wrong_in(certificate):
    """The first condition of what has the form of a certificate that does not hold, or None."""
    word, table = certificate[:2]
    if word in PLAIN:
        check_table(table)
        action = PLAIN[word]
        return action(table, certificate[2:])
    action = SCOPED[word]
    return action(tame_scope(table) if word == "program" else sound_scope(table), certificate[2:])


def is_certificate(value):
    """True if any value is a tuple of one of the forms, by its first entry and its length."""
    if not isinstance(value, tuple) or len(value) == 0 or not isinstance(value[0], str):
        return False
    return len(value) == ENTRIES.get(value[0], 0)


def check(certificate):
    """("right",), or ("wrong", k) with the number k of the first condition that does not hold."""
    if not is_certificate(certificate):
        raise NotACertificate("this is not a certificate")
    wrong = wrong_in(certificate)
    return ("right",) if wrong is None else ("wrong", wrong)
