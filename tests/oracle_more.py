"""The words of points 18 to 27 of DOC.md once more, as plainly and slowly as possible. Nothing here is imported from the program."""

import functools
import itertools

from tests import oracle
from tests.oracle import whole


# Points 18 and 19: heights, alike and lowest types, fitting types

def height(table, s, t, known=None):
    known = {} if known is None else known
    if (s, t) not in known:
        heights = [height(table, u, w, known) for u, w in oracle.needs(table, s, t)] if oracle.under(table, s, t) else None
        known[(s, t)] = None if heights is None else 1 + max(heights + [0])
    return known[(s, t)]


def alike(table, s, t):
    return oracle.under(table, s, t) and oracle.under(table, t, s)


def lowest(table, types):
    return [number for number, one in enumerate(types)
            if all([alike(table, one, two) for two in types if oracle.under(table, two, one)])]


def fits_class(table, number, value):
    """Some type of the class that is under the type, found by trying all arguments from the closure; or None."""
    choices = oracle.closure(table, (value,)) + ["x"]
    for arguments in itertools.product(choices, repeat=oracle.counts_of(table)[number]):
        if oracle.under(table, (number,) + arguments, value):
            return (number,) + arguments
    return None


# Point 20: uses, reasons and best signs

STARTS = {"get": "+", "put": "-", "both": "+-"}


def stands(table):
    """Tuples (class, parameter, kind, number, starts, place, steps) for all places of parameters."""
    found = []
    for number, row in enumerate(table):
        outer = [("super", at, "+", one) for at, one in enumerate(row[1])]
        outer += [("member", at, STARTS[one[1]], one[2]) for at, one in enumerate(row[2])]
        for kind, at, starts, value in outer:
            for place in oracle.places(value):
                if type(oracle.part_at(value, place)) is str:
                    steps = [(oracle.part_at(value, place[:n])[0], place[n]) for n in range(len(place))]
                    found.append((number, "ab".index(oracle.part_at(value, place)), kind, at, starts, place, steps))
    return found


def products(signs):
    found = "+"
    for sign in signs:
        found = oracle.product(found, sign)
    return found


def uses(table):
    found, before = set(), None
    while found != before:
        before = set(found)
        for number, parameter, _, _, starts, _, steps in stands(table):
            for start in starts:
                for ways in itertools.product("+-", repeat=len(steps)):
                    if all([step + (way,) in before for step, way in zip(steps, ways)]):
                        found.add((number, parameter, products((start,) + ways)))
    return sorted(found)


def best_signs(table):
    known = uses(table)
    choose = {"": "*", "+": "+", "-": "-", "+-": "="}
    return tuple([tuple([choose["".join([way for way in "+-" if (number, at, way) in known])] for at in range(len(row[0]))])
                  for number, row in enumerate(table)])


def with_signs(table, signs):
    return tuple([(one,) + row[1:] for one, row in zip(signs, table)])


def reason_wrong(table, number, parameter, way, value):
    """The first condition of the certificate "reason" that does not hold, or None."""
    places = {one[:4] + (one[5],): (one[4], one[6]) for one in stands(table)}

    def named(row):
        """The starts and steps of what a row tells of, or None."""
        if type(row) is not tuple or len(row) != 8 or not all([whole(row[at]) for at in (0, 1, 4)]):
            return None
        if type(row[3]) is not str or type(row[6]) is not tuple or not all([whole(one) for one in row[6]]):
            return None
        return places.get((row[0], row[1], row[3], row[4], row[6]))

    if type(value) is not list or not value or None in [named(row) for row in value]:
        return 0
    for at, row in enumerate(value):
        starts, steps = named(row)
        if type(row[5]) is not str or row[5] == "" or row[5] not in starts or row[5] == "+-":
            return 1
        if type(row[7]) is not tuple or len(row[7]) != len(steps):
            return 1
        if not all([whole(one) and 0 <= one < at for one in row[7]]):
            return 1
        if [value[one][:2] for one in row[7]] != steps or row[2] != products([row[5]] + [value[one][2] for one in row[7]]):
            return 1
    if not whole(number) or not whole(parameter) or (number, parameter, way) != value[-1][:3]:
        return 2
    return None


# Point 21: offers

def offers(table, value):
    if type(value) is str:
        return []
    found = []
    for number in oracle.classes_above(table, value[0]):
        own = oracle.above(table, value, number)
        found += [(name, use, oracle.put(inner, own[1:])) for name, use, inner in table[number][2]]
    return sorted(found, key=lambda one: one[0])


def offered(table, value, name):
    """The tuple (use, type) under this name, or None."""
    found = [one[1:] for one in offers(table, value) if one[0] == name]
    return found[0] if found else None


# Points 22 to 24: programs

def closed_ok(table, value):
    return oracle.type_ok(oracle.counts_of(table), value) and not oracle.letters(value)


def small_ok(table, value):
    return closed_ok(table, value) and oracle.depth(value) <= 4


def name_ok(value):
    return whole(value) and 0 <= value <= 9


def values_ok(boxes, value):
    if type(value) is not tuple or len(value) > 4:
        return False
    for one in value:
        if type(one) is not tuple or len(one) != 2 or not name_ok(one[0]) or not box_ok(boxes, one[1]):
            return False
    names = [one[0] for one in value]
    return names == sorted(set(names))


def box_ok(boxes, value):
    return whole(value) and 0 <= value < len(boxes)


def row_ok(table, boxes, rows, row):
    if type(row) is not tuple or not row or type(row[0]) is not str:
        return False
    tests = {
        "new": (lambda x: box_ok(boxes, x), lambda x: small_ok(table, x), lambda x: values_ok(boxes, x)),
        "copy": (lambda x: box_ok(boxes, x), lambda x: box_ok(boxes, x)),
        "read": (lambda x: box_ok(boxes, x), lambda x: box_ok(boxes, x), name_ok),
        "write": (lambda x: box_ok(boxes, x), name_ok, lambda x: box_ok(boxes, x)),
        "ask": (lambda x: box_ok(boxes, x), lambda x: small_ok(table, x), lambda x: whole(x) and 0 <= x <= len(rows)),
        "jump": (lambda x: whole(x) and 0 <= x <= len(rows),),
    }.get(row[0])
    return tests is not None and len(row) == len(tests) + 1 and all([test(one) for test, one in zip(tests, row[1:])])


def program_ok(table, value):
    if type(value) is not tuple or len(value) != 2 or type(value[0]) is not tuple or type(value[1]) is not tuple:
        return False
    boxes, rows = value
    if not 1 <= len(boxes) <= 6 or len(rows) > 12 or not all([small_ok(table, one) for one in boxes]):
        return False
    return all([row_ok(table, boxes, rows, row) for row in rows])


@functools.lru_cache(maxsize=None)
def closed_under(table, s, t):
    return oracle.under(table, s, t)


def row_fits(table, boxes, row):
    word = row[0]
    if word == "new":
        found = closed_under(table, row[2], boxes[row[1]])
        for name, box in row[3]:
            one = offered(table, row[2], name)
            found = found and one is not None and closed_under(table, boxes[box], one[1])
        return found
    if word == "copy":
        return closed_under(table, boxes[row[2]], boxes[row[1]])
    if word == "read":
        one = offered(table, boxes[row[2]], row[3])
        return one is not None and one[0] in ("get", "both") and closed_under(table, one[1], boxes[row[1]])
    if word == "write":
        one = offered(table, boxes[row[1]], row[2])
        return one is not None and one[0] in ("put", "both") and closed_under(table, boxes[row[3]], one[1])
    return True


def misfit(table, program):
    boxes, rows = program
    wrong = [number for number, row in enumerate(rows) if not row_fits(table, boxes, row)]
    return wrong[0] if wrong else None


def run(table, program, steps):
    """Objects are numbers: kinds has their types, slots what is in their slots; None is nothing."""
    boxes, rows = program
    held, kinds, slots, at, done = [None] * len(boxes), [], [], 0, 0

    def wrong(thing, value):
        return thing is not None and not closed_under(table, kinds[thing], value)

    while at < len(rows):
        if done == steps:
            return ("late", at)
        row, here = rows[at], at
        word, x = row[0], row[1]
        at, done = at + 1, done + 1
        if word == "jump":
            at = x
        elif word == "ask":
            if held[x] is None or not closed_under(table, kinds[held[x]], row[2]):
                at = row[3]
        elif word == "copy":
            if wrong(held[row[2]], boxes[x]):
                return ("wrong", here)
            held[x] = held[row[2]]
        elif word == "new":
            found = [(name, held[box], offered(table, row[2], name)) for name, box in row[3]]
            if None in [one[2] for one in found]:
                return ("missing", here)
            if any([wrong(thing, one[1]) for _, thing, one in found]) or not closed_under(table, row[2], boxes[x]):
                return ("wrong", here)
            kinds.append(row[2])
            slots.append({name: thing for name, thing, _ in found})
            held[x] = len(kinds) - 1
        else:
            thing, name = (held[row[2]], row[3]) if word == "read" else (held[x], row[2])
            if thing is None:
                return ("empty", here)
            one = offered(table, kinds[thing], name)
            if one is None or one[0] == {"read": "put", "write": "get"}[word]:
                return ("missing", here)
            if word == "read":
                if wrong(slots[thing].get(name), boxes[x]):
                    return ("wrong", here)
                held[x] = slots[thing].get(name)
            else:
                if wrong(held[row[3]], one[1]):
                    return ("wrong", here)
                slots[thing][name] = held[row[3]]
    return ("done", tuple([None if one is None else kinds[one] for one in held]))


# Point 26: certificates

LENGTHS = {"fault": 3, "derivation": 5, "refusal": 5, "levels": 3, "growth": 3, "road": 3, "reason": 6, "program": 4}


def exact(value, wanted):
    """Equal, and of the same kinds throughout."""
    if type(value) is not type(wanted):
        return False
    if isinstance(value, (tuple, list)):
        return len(value) == len(wanted) and all([exact(one, two) for one, two in zip(value, wanted)])
    return value == wanted


def fault_wrong(table, value):
    words = ["ring", "obstacle", "clash", "name"]
    if type(value) is not tuple or not value or type(value[0]) is not str or value[0] not in words:
        return 0
    if len(value) != (4 if value[0] == "obstacle" else 2):
        return 0
    order = oracle.in_order(table)
    if value[0] == "ring":
        return None if oracle.ring_ok(table, value[1]) else 1
    known = [one for one in oracle.table_obstacles(table)]
    if value[0] == "obstacle":
        if not any([exact(value[1:], one) for one in known]):
            return 1
        return None if order else 2
    if not order:
        return 1
    if value[0] == "clash":
        if not any([exact(value[1], one) for one in oracle.clashes(table)]):
            return 1
        return 2 if known else None
    if not any([exact(value[1], one) for one in oracle.double_names(table)]):
        return 1
    return 2 if known or oracle.clashes(table) else None


def levels_wrong(table, value):
    if type(value) is not tuple or [type(one) for one in value] != [tuple] * len(table):
        return 0
    if [len(one) for one in value] != oracle.counts_of(table):
        return 0
    if not all([whole(one) and one >= 0 for row in value for one in row]):
        return 0
    steps = oracle.steps(table)
    if any([value[d][j] < value[c][i] for c, i, d, j, growing in steps if not growing]):
        return 1
    return 2 if any([value[d][j] <= value[c][i] for c, i, d, j, growing in steps if growing]) else None


def growth_wrong(table, value):
    steps = oracle.steps(table)
    if type(value) is not list or not value:
        return 0
    if not all([any([exact(one, step) for step in steps]) for one in value]):
        return 0
    if any([value[at][:2] != value[at - 1][2:4] for at in range(len(value))]):
        return 1
    return None if any([one[4] for one in value]) else 2


def road_wrong(table, value):
    counts = oracle.counts_of(table)
    if type(value) is not list or not value or not all([oracle.type_ok(counts, one) for one in value]):
        return 0
    return 1 if any([two not in oracle.moves(table, one) for one, two in zip(value, value[1:])]) else None


def program_wrong(table, program, number):
    if not program_ok(table, program):
        return 0
    found = misfit(table, program)
    return None if exact(number, found) else 1


def pair_wrong(test, table, s, t, value):
    if not oracle.passable(table, s) or not oracle.passable(table, t):
        return 0
    return None if test(table, s, t, value) else 1


def judge(value):
    """What the checker returns, or the name of its error."""
    if type(value) is not tuple or not value or type(value[0]) is not str or LENGTHS.get(value[0]) != len(value):
        return "NotACertificate"
    word, table, rest = value[0], value[1], value[2:]
    if not oracle.table_ok(table):
        return "InvalidTable"
    if word in ("derivation", "refusal", "program") and not oracle.sound(table):
        return "Unsound"
    if word == "program" and not oracle.tame(table):
        return "NotTame"
    found = {
        "fault": fault_wrong, "levels": levels_wrong, "growth": growth_wrong, "road": road_wrong,
        "reason": reason_wrong, "program": program_wrong,
        "derivation": functools.partial(pair_wrong, oracle.derivation_ok),
        "refusal": functools.partial(pair_wrong, oracle.refusal_ok)}[word](table, *rest)
    return ("right",) if found is None else ("wrong", found)


# Point 27: bounds

def bounds_ok(table, value):
    if type(value) is not tuple or len(value) != 2:
        return False
    for side in value:
        if type(side) is not tuple or not all([closed_ok(table, one) for one in side]):
            return False
        if any([not one < two for one, two in zip(side, side[1:])]):
            return False
    return True


def keeps(table, bounds, value):
    return all([oracle.under(table, one, value) for one in bounds[0]] + [oracle.under(table, value, one) for one in bounds[1]])
