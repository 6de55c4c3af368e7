"""The words of DOC.md once more, as plainly and slowly as possible, to compare the program with.

Nothing here is imported from the program. Where the document says "any", there is a function that
tells whether a result is one of those it allows.
"""

import functools
import itertools

SIGNS = ("+", "-", "=", "*")
USES = ("get", "put", "both")
USE_SIGN = {"get": "+", "put": "-", "both": "="}


# Values and types

def whole(value):
    return type(value) is int


def variable(value):
    return type(value) is str and len(value) == 1 and value in "abcdefghijklmnopqrstuvwxyz"


def type_ok(counts, value):
    """A type of any size; counts are the numbers of parameters of the classes."""
    if variable(value):
        return True
    if type(value) is not tuple or not value or not whole(value[0]):
        return False
    if not 0 <= value[0] < len(counts) or len(value) - 1 != counts[value[0]]:
        return False
    return all([type_ok(counts, one) for one in value[1:]])


def depth(value):
    if type(value) is str:
        return 0
    return 1 if len(value) == 1 else 1 + max([depth(one) for one in value[1:]])


def size(value):
    return 1 if type(value) is str else 1 + sum([size(one) for one in value[1:]])


def counts_of(table):
    return [len(row[0]) for row in table]


def passable(table, value):
    return type_ok(counts_of(table), value) and depth(value) <= 6 and size(value) <= 25


def text(value):
    if type(value) is str:
        return value
    return str(value[0]) + ("(" + ",".join([text(one) for one in value[1:]]) + ")" if len(value) > 1 else "")


def put(value, arguments):
    if type(value) is str:
        number = "ab".find(value)
        return arguments[number] if 0 <= number < len(arguments) else value
    return (value[0],) + tuple([put(one, arguments) for one in value[1:]])


def part_at(value, place):
    for number in place:
        value = value[1 + number]
    return value


def places(value):
    """All places of a type, in any order."""
    if type(value) is str:
        return [()]
    found = [()]
    for number in range(len(value) - 1):
        found += [(number,) + place for place in places(value[1 + number])]
    return found


def letters(value):
    return [part_at(value, place) for place in places(value) if type(part_at(value, place)) is str]


# Tables

def inner_ok(counts, many, value):
    if not type_ok(counts, value) or depth(value) > 3 or size(value) > 5:
        return False
    return all([one in "ab"[:many] for one in letters(value)])


def super_ok(counts, many, value):
    if not inner_ok(counts, many, value) or type(value) is str:
        return False
    return all([letters(value).count(one) == 1 for one in letters(value)])


def member_ok(counts, many, value):
    if type(value) is not tuple or len(value) != 3 or not whole(value[0]) or not 0 <= value[0] <= 9:
        return False
    return type(value[1]) is str and value[1] in USES and inner_ok(counts, many, value[2])


def table_ok(value):
    if type(value) is not tuple or len(value) > 5:
        return False
    for row in value:
        if type(row) is not tuple or [type(one) for one in row] != [tuple, tuple, tuple]:
            return False
        if len(row[0]) > 2 or len(row[1]) > 2 or len(row[2]) > 3:
            return False
        if not all([type(one) is str and one in SIGNS for one in row[0]]):
            return False
    counts = counts_of(value)
    for signs, supers, members in value:
        if not all([super_ok(counts, len(signs), one) for one in supers]):
            return False
        if not all([member_ok(counts, len(signs), one) for one in members]):
            return False
        if len({one[0] for one in members}) < len(members):
            return False
    return True


# Signs

def product(first, second):
    if "*" in (first, second):
        return "*"
    if "=" in (first, second):
        return "="
    return {"++": "+", "--": "+", "+-": "-", "-+": "-"}[first + second]


def sign_at(table, value, place):
    sign = "+"
    for length in range(len(place)):
        sign = product(sign, table[part_at(value, place[:length])[0]][0][place[length]])
    return sign


def allows(sign, other):
    return other == "*" or sign == "=" or sign == other


def obstacles(table, number, parameter, sign):
    found = []
    signs, supers, members = table[number]
    outer = [("super", at, "+", one) for at, one in enumerate(supers)]
    outer += [("member", at, USE_SIGN[one[1]], one[2]) for at, one in enumerate(members)]
    for kind, at, start, value in outer:
        for place in places(value):
            if part_at(value, place) == "ab"[parameter]:
                if not allows(sign, product(start, sign_at(table, value, place))):
                    found.append((kind, at, place))
    return sorted(found)


def table_obstacles(table):
    return [(number, parameter, one) for number, row in enumerate(table) for parameter in range(len(row[0]))
            for one in obstacles(table, number, parameter, row[0][parameter])]


# Order, instances and faults

def direct(table, number):
    return [one[0] for one in table[number][1]]


def order_ok(table, value):
    if sorted(value) != list(range(len(table))):
        return False
    return all([value.index(other) < value.index(one) for one in value for other in direct(table, one)])


def in_order(table):
    return any(order_ok(table, list(one)) for one in itertools.permutations(range(len(table))))


def ring_ok(table, value):
    if type(value) is not list or not value or not all(whole(one) and 0 <= one < len(table) for one in value):
        return False
    if len(set(value)) < len(value):
        return False
    return all(value[(at + 1) % len(value)] in direct(table, value[at]) for at in range(len(value)))


@functools.lru_cache(maxsize=None)
def classes_above(table, number):
    found = {number}
    for _ in table:
        found |= {other for one in found for other in direct(table, one)}
    return tuple(sorted(found))


@functools.lru_cache(maxsize=None)
def instances(table, low, high):
    """All instances of the class high above low in a table in order, equal ones as often as they come."""
    if low == high:
        return [(low,) + ("a", "b")[:len(table[low][0])]]
    return [put(one, shape[1:]) for shape in table[low][1] for one in instances(table, shape[0], high)]


def clashes(table):
    found = []
    for low in range(len(table)):
        for high in classes_above(table, low):
            several = instances(table, low, high)
            found += [(low, high, one, two) for one in several for two in several if one != two]
    return found


def double_names(table):
    found = []
    for low in range(len(table)):
        for first in classes_above(table, low):
            for second in classes_above(table, low):
                names = [one[0] for one in table[first][2]]
                both = [one[0] for one in table[second][2] if one[0] in names]
                found += [(low, name, first, second) for name in both if first < second]
    return found


def fault_ok(table, value):
    """True if value is right as the fault of the table."""
    if not in_order(table):
        return type(value) is tuple and len(value) == 2 and value[0] == "ring" and ring_ok(table, value[1])
    if table_obstacles(table):
        return value in [("obstacle",) + one for one in table_obstacles(table)]
    if clashes(table):
        return value in [("clash", one) for one in clashes(table)]
    if double_names(table):
        return value in [("name", one) for one in double_names(table)]
    return value is None


def sound(table):
    return fault_ok(table, None)


# Above and under

def above(table, value, number):
    if type(value) is str or number not in classes_above(table, value[0]):
        return None
    return put(instances(table, value[0], number)[0], value[1:])


def way_ok(table, low, high, value):
    if type(value) is not list:
        return False
    for number in value:
        if not whole(number) or not 0 <= number < len(table[low][1]):
            return False
        low = table[low][1][number][0]
    return low == high


def needs(table, s, t):
    if type(s) is str or type(t) is str:
        return [] if s == t else None
    instance = above(table, s, t[0])
    if instance is None:
        return None
    found = []
    for at, sign in enumerate(table[t[0]][0]):
        up, down = (instance[1 + at], t[1 + at]), (t[1 + at], instance[1 + at])
        found += {"+": [up], "-": [down], "=": [up, down], "*": []}[sign]
    return found


def derivation_ok(table, s, t, value):
    counts = counts_of(table)
    if type(value) is not list or not value:
        return False
    for at, row in enumerate(value):
        if type(row) is not tuple or len(row) != 3 or not type_ok(counts, row[0]) or not type_ok(counts, row[1]):
            return False
        wanted, used = needs(table, row[0], row[1]), row[2]
        if wanted is None or type(used) is not tuple or len(used) != len(wanted):
            return False
        for number, pair in zip(used, wanted):
            if not whole(number) or not 0 <= number < at or value[number][:2] != pair:
                return False
    return value[-1][:2] == (s, t)


def refusal_ok(table, s, t, value):
    counts = counts_of(table)
    if type(value) is not list or not value:
        return False
    for pair in value:
        if type(pair) is not tuple or len(pair) != 2 or not type_ok(counts, pair[0]) or not type_ok(counts, pair[1]):
            return False
    if value[0] != (s, t):
        return False
    for pair, following in zip(value, value[1:]):
        if following not in (needs(table, *pair) or []):
            return False
    last = needs(table, *value[-1])
    return last is None or any([pair in value for pair in last])


def under(table, s, t, behind=(), known=None):
    """True or False by the needs alone, known holding what is found; for tame tables."""
    known = {} if known is None else known
    if (s, t) in behind:
        return False
    if (s, t) not in known:
        wanted = needs(table, s, t)
        answer = wanted is not None
        if answer:
            answer = all([under(table, u, w, behind + ((s, t),), known) for u, w in wanted])
        known[(s, t)] = answer
    return known[(s, t)]


def derive(table, s, t, most=60):
    """A derivation, None if there is none, or if it would have more than so many rows."""
    rows = []

    def number_of(pair, behind):
        for number, row in enumerate(rows):
            if row[:2] == pair:
                return number
        wanted = needs(table, *pair)
        if wanted is None or pair in behind or len(rows) + len(behind) > most:
            return None
        used = []
        for one in wanted:
            number = number_of(one, behind + [pair])
            if number is None:
                return None
            used.append(number)
        rows.append(pair + (tuple(used),))
        return len(rows) - 1

    return None if number_of((s, t), []) is None else rows


# Growth and closures

def steps(table):
    found = set()
    for number, row in enumerate(table):
        for shape in row[1]:
            for place in places(shape):
                part = part_at(shape, place)
                for at in range(len(part) - 1 if type(part) is tuple else 0):
                    for letter in letters(part[1 + at]):
                        found.add((number, "ab".index(letter), part[0], at, part[1 + at] != letter))
    return sorted(found)


def step_ring_ok(table, value):
    if type(value) is not list or not value or not all([one in steps(table) for one in value]):
        return False
    if not all([type(one) is tuple and [type(it) for it in one] == [int, int, int, int, bool] for one in value]):
        return False
    return all(value[at - 1][2:4] == value[at][:2] for at in range(len(value))) and any(one[4] for one in value)


def levels(table):
    """The least levels: the greatest number of growing steps on a walk to the parameter; None if there is none."""
    keys = [(number, at) for number, row in enumerate(table) for at in range(len(row[0]))]
    found = {key: 0 for key in keys}
    for _ in range(len(keys) + 1):
        before = dict(found)
        for one in steps(table):
            found[one[2:4]] = max(found[one[2:4]], found[one[:2]] + int(one[4]))
        # Plain steps hand levels on before the next growing one is counted.
        for _ in keys:
            for one in steps(table):
                if not one[4]:
                    found[one[2:4]] = max(found[one[2:4]], found[one[:2]])
    if found != before:
        return None
    return tuple([tuple([found[(number, at)] for at in range(len(row[0]))]) for number, row in enumerate(table)])


def tame(table):
    return levels(table) is not None


def moves(table, value):
    if type(value) is str:
        return []
    return list(value[1:]) + [put(one, value[1:]) for one in table[value[0]][1]]


def road_ok(table, number, value):
    if type(value) is not list or not value or type(value[0]) is not tuple:
        return False
    if not all([variable(one) for one in value[0][1:]]) or not all([type_ok(counts_of(table), one) for one in value]):
        return False
    return all([two in moves(table, one) for one, two in zip(value, value[1:])]) and depth(value[-1]) >= number


def closure(table, types):
    found = set()
    fresh = set(types)
    while fresh:
        found |= fresh
        fresh = {two for one in fresh for two in moves(table, one)} - found
    return sorted(found, key=text)
