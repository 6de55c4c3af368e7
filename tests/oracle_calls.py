"""The words of points 34 to 37 and 39 of DOC.md once more, as plainly and slowly as possible. Nothing here is imported from the program."""

import functools
import itertools

from tests import oracle
from tests import oracle_bounds as ob
from tests.oracle import whole
from tests.oracle_more import bounds_ok, closed_ok


# Point 34: calls

def pattern_ok(table, many, value):
    return oracle.inner_ok(oracle.counts_of(table), many, value)


def signature_ok(table, value):
    if type(value) is not tuple or len(value) != 3 or not whole(value[0]) or not 0 <= value[0] <= 2:
        return False
    if type(value[1]) is not tuple or len(value[1]) > 3:
        return False
    return all([pattern_ok(table, value[0], one) for one in value[1] + (value[2],)])


def all_closed(table, value, many):
    return type(value) is tuple and len(value) == many and all([closed_ok(table, one) for one in value])


def wish_ok(table, value):
    return value is None or closed_ok(table, value)


def call_ok(table, value):
    if type(value) is not tuple or len(value) != 3 or not signature_ok(table, value[0]):
        return False
    return all_closed(table, value[1], len(value[0][1])) and wish_ok(table, value[2])


def starts(call):
    (many, parameters, result), arguments, wish = call
    return tuple([(one, two) for one, two in zip(arguments, parameters)] + ([] if wish is None else [(result, wish)]))


def opened(table, call):
    return ob.limits(table, starts(call), "ab"[:call[0][0]])


def call_bar_ok(table, call, value):
    return ob.chain_ok(table, starts(call), value)


def fits(table, call, choice):
    return all([ob.under(table, oracle.put(s, choice), oracle.put(t, choice)) for s, t in starts(call)])


def choices(table, call, deepest=2):
    """The choices of small types that fit, each tried."""
    some = ob.all_types(table, deepest, 60)
    some = ob.all_types(table, 1, 60) if some is None else some
    return [one for one in itertools.product(some, repeat=call[0][0]) if fits(table, call, one)]


def sides(table, call, letter):
    """The sides on which the letter counts in the result."""
    result = call[0][2]
    signs = [oracle.sign_at(table, result, place) for place in oracle.places(result) if oracle.part_at(result, place) == letter]
    return [side for side, some in (("lower", "+="), ("upper", "-=")) if any([one in some for one in signs])]


def is_best(table, call, choice):
    """True if the choice fits, and, for each letter, it is an end of all others on the sides that count."""
    if not fits(table, call, choice):
        return False
    return all([ob.is_inside(table, bounds, ob.side_bounds(side, one))
                for letter, bounds, one in zip("ab", opened(table, call), choice) for side in sides(table, call, letter)])


# Points 35 and 36: halves and crossings

def names(shape):
    return sorted(oracle.letters(shape))


def half_ok(table, value):
    if type(value) is not tuple or len(value) != 2 or not oracle.type_ok(oracle.counts_of(table), value[0]):
        return False
    if names(value[0]) not in ([], ["a"], ["b"], ["a", "b"]) or type(value[1]) is not tuple:
        return False
    return len(value[1]) == len(names(value[0])) and all([bounds_ok(table, one) for one in value[1]])


def crossing_ok(table, value):
    if type(value) is not tuple or len(value) != 3 or not half_ok(table, value[0]) or not half_ok(table, value[1]):
        return False
    return type(value[2]) is str and value[2] in ("under", "alike")


def limit_of(half, letter):
    return half[1][names(half[0]).index(letter)]


def argument_half(half, shape):
    return (shape, tuple([limit_of(half, letter) for letter in names(shape)]))


def opened_halves(table, half):
    bounds = half[1][0]
    return [((number,) + ("a", "b")[:oracle.counts_of(table)[number]], inner)
            for number, inner in enumerate(ob.splits(table, bounds)) if inner is not None]


@functools.lru_cache(maxsize=None)
def needed(table, crossing):
    """The list of the crossings that it needs, or None."""
    first, second, way = crossing
    if type(first[0]) is str:
        return [(one, second, way) for one in opened_halves(table, first)]
    if type(second[0]) is str:
        return [(first, one, way) for one in opened_halves(table, second)]
    number = second[0][0]
    if way == "alike":
        if first[0][0] != number:
            return None
        upper = first[0]
    else:
        upper = oracle.above(table, first[0], number)
        if upper is None:
            return None
    found = []
    for at, sign in enumerate(table[number][0]):
        u, w = argument_half(first, upper[1 + at]), argument_half(second, second[0][1 + at])
        if sign != "*":
            if way == "alike" or sign == "=":
                found.append((u, w, "alike"))
            else:
                found.append((u, w, "under") if sign == "+" else (w, u, "under"))
    return found


def unmet_ok(table, rows, poor, crossing):
    if any([one in poor for half in crossing[:2] for one in half[1]]):
        return True
    wanted = needed(table, crossing)
    if wanted is None:
        return True
    inside = [one in rows for one in wanted]
    return all(inside) if str in (type(crossing[0][0]), type(crossing[1][0])) else any(inside)


def gap_ok(table, first, second, value):
    if type(value) is not tuple or len(value) != 2 or type(value[0]) is not list or not value[0]:
        return False
    rows, poor = value
    if not ob.barren_list_ok(table, poor) or not all([crossing_ok(table, one) for one in rows]):
        return False
    return rows[0] == (first, second, "under") and all([unmet_ok(table, rows, poor, one) for one in rows])


def filled(half, filling):
    found = dict(zip(names(half[0]), filling))
    return oracle.put(half[0], [found.get("a", "a"), found.get("b", "b")])


def filling_ok(table, half, value):
    return all_closed(table, value, len(half[1])) and all([ob.keeps(table, bounds, one) for bounds, one in zip(half[1], value)])


def bridge_ok(table, first, second, value):
    if type(value) is not tuple or len(value) != 2:
        return False
    if not filling_ok(table, first, value[0]) or not filling_ok(table, second, value[1]):
        return False
    return ob.under(table, filled(first, value[0]), filled(second, value[1]))


def small_fillings(table, half, many=8):
    return list(itertools.product(*[ob.keepers(table, one, 2, 60)[:many] for one in half[1]]))


def small_bridges(table, first, second):
    """The bridges of small types."""
    return [(one, two) for one in small_fillings(table, first) for two in small_fillings(table, second)
            if ob.under(table, filled(first, one), filled(second, two))]


# Point 37: nested calls

def once(shape):
    return len(set(oracle.letters(shape))) == len(oracle.letters(shape))


def nested_ok(table, value):
    if type(value) is not tuple or len(value) != 6 or not signature_ok(table, value[0]) or not signature_ok(table, value[2]):
        return False
    inner, given, outer, number, others, wish = value
    if not whole(number) or not 0 <= number < len(outer[1]) or not all_closed(table, given, len(inner[1])):
        return False
    if not all_closed(table, others, len(outer[1]) - 1) or not wish_ok(table, wish):
        return False
    return once(inner[2]) and once(outer[1][number])


def inner_call(call):
    return (call[0], call[1], None)


def outer_call(call, argument):
    """The call of outer with this argument at number."""
    return (call[2], call[4][:call[3]] + (argument,) + call[4][call[3]:], call[5])


def outer_without(call):
    many, parameters, result = call[2]
    return ((many, parameters[:call[3]] + parameters[call[3] + 1:], result), call[4], call[5])


def nested_halves(table, call):
    both = [opened(table, inner_call(call)), opened(table, outer_without(call))]
    if None in both:
        return None
    shapes = [call[0][2], call[2][1][call[3]]]
    return tuple([(shape, tuple([limits["ab".index(letter)] for letter in names(shape)])) for shape, limits in zip(shapes, both)])


def nested_fits(table, call, value):
    if type(value) is not tuple or len(value) != 2 or not all_closed(table, value[0], call[0][0]) or not all_closed(table, value[1], call[2][0]):
        return False
    if not fits(table, inner_call(call), value[0]):
        return False
    return fits(table, outer_call(call, oracle.put(call[0][2], value[0])), value[1])


# Point 39: records

def keeper_ok(table, bounds, value):
    return closed_ok(table, value) and ob.keeps(table, bounds, value)


def floors_with(table, bounds, value, number):
    return ob.floors_ok(table, bounds, value) and value[0][1] == number


def class_ok(table, value):
    return whole(value) and 0 <= value < len(table)


def ends_ok(table, call, choice, value):
    if type(value) is not tuple or len(value) != len(choice) or not all([type(one) is tuple and len(one) == 2 for one in value]):
        return False
    return all([ob.covers_ok(table, bounds, ob.side_bounds(side, one), both[("lower", "upper").index(side)])
                for letter, bounds, one, both in zip("ab", opened(table, call), choice, value) for side in sides(table, call, letter)])


RECORDS = {
    "keeper": (lambda t, b, c, f: bounds_ok(t, b), lambda t, b, c, f: keeper_ok(t, b, c), lambda t, b, c, f: floors_with(t, b, f, oracle.depth(c))),
    "barren": (lambda t, b, f: bounds_ok(t, b), lambda t, b, f: floors_with(t, b, f, None)),
    "bar": (lambda t, b, c, p: bounds_ok(t, b), lambda t, b, c, p: class_ok(t, c), lambda t, b, c, p: ob.bar_ok(t, b, c, p)),
    "pump": (lambda t, b, p: bounds_ok(t, b), lambda t, b, p: ob.pump_ok(t, b, p)),
    "covers": (lambda t, b, o, c: bounds_ok(t, b), lambda t, b, o, c: bounds_ok(t, o), lambda t, b, o, c: ob.covers_ok(t, b, o, c)),
    "outside": (lambda t, b, o, c: bounds_ok(t, b), lambda t, b, o, c: bounds_ok(t, o), lambda t, b, o, c: keeper_ok(t, b, c),
                lambda t, b, o, c: not ob.keeps(t, o, c)),
    "bottom": (lambda t, b, c, f: bounds_ok(t, b), lambda t, b, c, f: keeper_ok(t, b, c), lambda t, b, c, f: ob.covers_ok(t, b, ((c,), ()), f)),
    "top": (lambda t, b, c, f: bounds_ok(t, b), lambda t, b, c, f: keeper_ok(t, b, c), lambda t, b, c, f: ob.covers_ok(t, b, ((), (c,)), f)),
    "best": (lambda t, c, o, f: call_ok(t, c), lambda t, c, o, f: all_closed(t, o, c[0][0]) and fits(t, c, o), ends_ok),
    "bridge": (lambda t, f, s, b: half_ok(t, f), lambda t, f, s, b: half_ok(t, s), bridge_ok),
    "gap": (lambda t, f, s, g: half_ok(t, f), lambda t, f, s, g: half_ok(t, s), gap_ok),
}
LENGTHS = {word: 4 if word in ("barren", "pump") else 5 for word in RECORDS}


def judge(value):
    """What the judge returns, or the name of its error."""
    if type(value) is not tuple or not value or type(value[0]) is not str or LENGTHS.get(value[0]) != len(value):
        return "NotARecord"
    if not oracle.table_ok(value[1]):
        return "InvalidTable"
    if not oracle.sound(value[1]):
        return "Unsound"
    if not oracle.tame(value[1]):
        return "NotTame"
    for number, condition in enumerate(RECORDS[value[0]]):
        if not condition(*value[1:]):
            return ("wrong", number)
    return ("right",)
