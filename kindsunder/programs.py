"""Small programs with boxes and objects: what they are, whether they fit, and what they do."""

from kindsunder.basics import TOO_MANY, heads_of, is_number, is_tuple_of, is_tuple_up_to, parts_within
from kindsunder.deciding import holds
from kindsunder.errors import InvalidNumber, InvalidProgram
from kindsunder.offers import offers_of
from kindsunder.scopes import tame_scope
from kindsunder.tables import check_table, is_name

MOST_BOXES = 6
MOST_ROWS = 12
MOST_VALUES = 4
MOST_DEPTH = 4
MOST_STEPS = 200
# The number of entries of a row, by its word.
ENTRIES = {"new": 4, "copy": 3, "read": 4, "write": 4, "ask": 4, "jump": 2}


class Form:
    """What the rows of a program may name: classes with these heads, boxes and rows up to these numbers."""

    def __init__(self, heads, boxes, rows):
        self.heads = heads
        self.last_box = boxes - 1
        self.last_row = rows

    def has_box(self, value):
        """True if any value is the number of a box."""
        return is_number(value, 0, self.last_box)

    def has_row(self, value):
        """True if any value is an integer from 0 to the number of rows."""
        return is_number(value, 0, self.last_row)

    def has_shape(self, value):
        """True if any value is a closed type of a depth that a program may have."""
        leaves = []
        if not isinstance(value, tuple) or parts_within(self.heads, value, MOST_DEPTH, leaves) >= TOO_MANY:
            return False
        return not leaves

    def has_values(self, value):
        """True if any value is a tuple of tuples (name, box), as "new" has it."""
        if not is_tuple_up_to(value, MOST_VALUES):
            return False
        for one in value:
            if not is_tuple_of(one, 2) or not is_name(one[0]) or not self.has_box(one[1]):
                return False
        return all(value[at - 1][0] < value[at][0] for at in range(1, len(value)))

    def has(self, value):
        """True if any value is a row."""
        if not isinstance(value, tuple) or len(value) == 0 or not isinstance(value[0], str):
            return False
        word = value[0]
        if len(value) != ENTRIES.get(word, 0):
            return False
        if word == "jump":
            return self.has_row(value[1])
        if not self.has_box(value[1]):
            return False
        if word == "copy":
            return self.has_box(value[2])
        if word == "read":
            return self.has_box(value[2]) and is_name(value[3])
        if word == "write":
            return is_name(value[2]) and self.has_box(value[3])
        if word == "new":
            return self.has_shape(value[2]) and self.has_values(value[3])
        return self.has_shape(value[2]) and self.has_row(value[3])


def is_program_for(table, value):
    """True if any value is a program for the table."""
    if not is_tuple_of(value, 2):
        return False
    boxes, rows = value
    if not is_tuple_up_to(boxes, MOST_BOXES) or len(boxes) == 0 or not is_tuple_up_to(rows, MOST_ROWS):
        return False
    form = Form(heads_of(table), len(boxes), len(rows))
    return all(form.has_shape(one) for one in boxes) and all(form.has(one) for one in rows)


def offered_by(scope, shape):
    """For each name that a type offers, a tuple (use, type)."""
    return {name: (use, inner) for name, use, inner in offers_of(scope, shape)}


def are_values_right(scope, boxes, shape, values):
    """True if a type offers each name of the values, and the type of the box is under what it offers."""
    offered = offered_by(scope, shape)
    for name, box in values:
        if name not in offered or not holds(scope, boxes[box], offered[name][1]):
            return False
    return True


def does_fit(scope, boxes, row):
    """True if a row fits."""
    if row[0] == "new":
        return holds(scope, row[2], boxes[row[1]]) and are_values_right(scope, boxes, row[2], row[3])
    if row[0] == "copy":
        return holds(scope, boxes[row[2]], boxes[row[1]])
    if row[0] == "read":
        use, inner = offered_by(scope, boxes[row[2]]).get(row[3], ("put", None))
        return use != "put" and holds(scope, inner, boxes[row[1]])
    if row[0] == "write":
        use, inner = offered_by(scope, boxes[row[1]]).get(row[2], ("get", None))
        return use != "get" and holds(scope, boxes[row[3]], inner)
    return True


def first_misfit(scope, program):
    """The number of the first row that does not fit, or None."""
    boxes, rows = program
    for number, row in enumerate(rows):
        if not does_fit(scope, boxes, row):
            return number
    return None


class Thing:
    """An object: its own type, what this offers, and what is in its slots, an object or None."""

    def __init__(self, shape, offered):
        self.shape = shape
        self.offered = offered
        self.slots = {name: None for name in offered}


class Run:
    """What is in the boxes, an object or None, and the row that is next."""

    def __init__(self, scope, boxes):
        self.scope = scope
        self.boxes = boxes
        self.held = [None for _ in boxes]
        self.at = 0

    def suits(self, thing, shape):
        """True if what is put, an object or None, may come where the type is wanted."""
        return thing is None or holds(self.scope, thing.shape, shape)

    def put_into(self, box, thing):
        """Put an object or None into a box, or return "wrong"."""
        if not self.suits(thing, self.boxes[box]):
            return "wrong"
        self.held[box] = thing
        return None

    def do_new(self, row):
        """Do a row "new", or return the word with which the run ends."""
        thing = Thing(row[2], offered_by(self.scope, row[2]))
        if not all(name in thing.offered for name, _ in row[3]):
            return "missing"
        for name, box in row[3]:
            if not self.suits(self.held[box], thing.offered[name][1]):
                return "wrong"
            thing.slots[name] = self.held[box]
        return self.put_into(row[1], thing)

    def do_read(self, row):
        """Do a row "read", or return the word with which the run ends."""
        thing = self.held[row[2]]
        if thing is None:
            return "empty"
        if thing.offered.get(row[3], ("put", None))[0] == "put":
            return "missing"
        return self.put_into(row[1], thing.slots[row[3]])

    def do_write(self, row):
        """Do a row "write", or return the word with which the run ends."""
        thing = self.held[row[1]]
        if thing is None:
            return "empty"
        use, inner = thing.offered.get(row[2], ("get", None))
        if use == "get":
            return "missing"
        if not self.suits(self.held[row[3]], inner):
            return "wrong"
        thing.slots[row[2]] = self.held[row[3]]
        return None

    def do_ask(self, row):
        """Do a row "ask"."""
        thing = self.held[row[1]]
        if thing is None or not holds(self.scope, thing.shape, row[2]):
            self.at = row[3]

    def do(self, row):
        """Do a row and go on, or return the word with which the run ends."""
        self.at += 1
        if row[0] == "new":
            return self.do_new(row)
        if row[0] == "copy":
            return self.put_into(row[1], self.held[row[2]])
        if row[0] == "read":
            return self.do_read(row)
        if row[0] == "write":
            return self.do_write(row)
        if row[0] == "ask":
            self.do_ask(row)
        else:
            self.at = row[1]
        return None


def end_of(scope, program, number):
    """The end of the run with this number of steps."""
    boxes, rows = program
    going = Run(scope, boxes)
    done = 0
    while going.at < len(rows):
        at = going.at
        if done == number:
            return ("late", at)
        word = going.do(rows[at])
        if word is not None:
            return (word, at)
        done += 1
    return ("done", tuple([None if thing is None else thing.shape for thing in going.held]))


def program_scope(table, program):
    """The scope of a sound and tame table. Raises InvalidProgram, behind the errors of the table."""
    scope = tame_scope(table)
    if not is_program_for(table, program):
        raise InvalidProgram("this is not a program for the table")
    return scope


def is_program(table, value):
    """True if any value is a program for the table."""
    check_table(table)
    return is_program_for(table, value)


def misfit(table, program):
    """The number of the first row that does not fit, or None if the program fits."""
    return first_misfit(program_scope(table, program), program)


def run(table, program, number):
    """The end of the run of the program with this number of steps."""
    scope = program_scope(table, program)
    if not is_number(number, 0, MOST_STEPS):
        raise InvalidNumber("this is not an integer from 0 to 200")
    return end_of(scope, program, number)
