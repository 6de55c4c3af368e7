"""The words of points 27 to 33 of DOC.md once more, as plainly and slowly as possible. Nothing here is imported from the program."""

import functools
import itertools

from tests import oracle, oracle_more
from tests.oracle import whole
from tests.oracle_more import bounds_ok, closed_ok

under = oracle_more.closed_under


@functools.lru_cache(maxsize=None)
def keeps(table, bounds, value):
    return all([under(table, one, value) for one in bounds[0]] + [under(table, value, one) for one in bounds[1]])


def closed_types(table, deepest, most=400):
    """All closed types with at most this depth, or with a lesser one where there would be more than so many; ascending."""
    found = []
    for _ in range(deepest):
        more = []
        for number, count in enumerate(oracle.counts_of(table)):
            if len(found) ** count > most:
                return found
            more += [(number,) + one for one in itertools.product(found, repeat=count)]
        if len(more) > most:
            return found
        found = sorted(more)
    return found


def all_types(table, deepest, most=400):
    """All closed types with at most this depth, ascending, or None if there are more than so many."""
    found = []
    for _ in range(deepest):
        counts = oracle.counts_of(table)
        if sum([len(found) ** count for count in counts]) > most:
            return None
        found = sorted([(number,) + one for number, count in enumerate(counts) for one in itertools.product(found, repeat=count)])
    return found


def keepers(table, bounds, deepest=3, most=400):
    return [one for one in closed_types(table, deepest, most) if keeps(table, bounds, one)]


# Point 28: wants, bars, splits, families

def open_needs(table, pair):
    """What a pair needs, none for an open one, or None if it is impossible."""
    return [] if str in (type(pair[0]), type(pair[1])) else oracle.needs(table, *pair)


@functools.lru_cache(maxsize=None)
def wants(table, starts):
    """The least set of pairs with these and all that they need, as a tuple."""
    found = list(starts)
    for pair in found:
        found += [one for one in open_needs(table, pair) or [] if one not in found]
    return tuple(found)


@functools.lru_cache(maxsize=None)
def is_barred(table, starts):
    """True if a start can not be derived, where open pairs can: then it leads to an impossible pair, or comes round."""
    right, before = set(), None
    while before != len(right):
        before = len(right)
        for pair in wants(table, starts):
            needed = open_needs(table, pair)
            if needed is not None and all([one in right for one in needed]):
                right.add(pair)
    return not all([pair in right for pair in starts])


def starts_of(table, bounds, number):
    shape = (number,) + ("a", "b")[:oracle.counts_of(table)[number]]
    return tuple([(one, shape) for one in bounds[0]] + [(shape, one) for one in bounds[1]])


def limits(table, starts, names):
    """The bounds of each letter, or None if there is a bar."""
    if is_barred(table, starts):
        return None
    pairs = wants(table, starts)
    return tuple([
        (tuple(sorted({s for s, t in pairs if t == name})), tuple(sorted({t for s, t in pairs if s == name}))) for name in names])


@functools.lru_cache(maxsize=None)
def split(table, bounds, number):
    return limits(table, starts_of(table, bounds, number), "ab"[:oracle.counts_of(table)[number]])


def splits(table, bounds):
    return [split(table, bounds, number) for number in range(len(table))]


def chain_ok(table, starts, value):
    """A bar that begins with one of the starts."""
    counts = oracle.counts_of(table)
    if type(value) is not list or not value:
        return False
    for pair in value:
        if type(pair) is not tuple or len(pair) != 2 or not all([oracle.type_ok(counts, one) for one in pair]):
            return False
        if type(pair[0]) is str or type(pair[1]) is str:
            return False
    if value[0] not in starts:
        return False
    for pair, following in zip(value, value[1:]):
        if following not in (open_needs(table, pair) or []):
            return False
    last = open_needs(table, value[-1])
    return last is None or any([pair in value for pair in last])


def bar_ok(table, bounds, number, value):
    return chain_ok(table, starts_of(table, bounds, number), value)


@functools.lru_cache(maxsize=None)
def family(table, bounds):
    found = [bounds]
    for one in found:
        for inner in splits(table, one):
            found += [two for two in dict.fromkeys(inner or ()) if two not in found]
    return sorted(found)


# Point 29: first keepers and floors

@functools.lru_cache(maxsize=None)
def depths(table, bounds):
    """For each bounds of the family the least depth of a keeper, or None."""
    found = {one: None for one in family(table, bounds)}
    for level in range(1, len(found) + 1):
        for one in found:
            for inner in splits(table, one):
                if found[one] is None and inner is not None and all([found[two] is not None and found[two] < level for two in inner]):
                    found[one] = level
    return found


@functools.lru_cache(maxsize=None)
def first_keeper(table, bounds):
    known = depths(table, bounds)
    if known[bounds] is None:
        return None
    for number, inner in enumerate(splits(table, bounds)):
        if inner is not None and None not in [known[one] for one in inner]:
            if max([known[one] for one in inner] + [0]) == known[bounds] - 1:
                return (number,) + tuple([first_keeper(table, one) for one in inner])


def barren(table, bounds):
    return depths(table, bounds)[bounds] is None


def floor_ok(table, rows, bounds, number):
    for inner in splits(table, bounds):
        fine = number == 1 or inner is None
        for one, two in rows:
            if not fine and one in inner:
                fine = two is None or (number is not None and two >= number - 1)
        if not fine:
            return False
    return True


def floors_ok(table, bounds, value):
    if type(value) is not list or not value:
        return False
    for row in value:
        if type(row) is not tuple or len(row) != 2 or not bounds_ok(table, row[0]):
            return False
        if row[1] is not None and not (whole(row[1]) and row[1] >= 1):
            return False
    return value[0][0] == bounds and all([floor_ok(table, value, *row) for row in value])


# Point 30: counts and pumps

@functools.lru_cache(maxsize=None)
def count(table, bounds, number):
    found = 0
    for inner in splits(table, bounds) if number else []:
        if inner is not None:
            many = 1
            for one in inner:
                many *= count(table, one, number - 1)
            found += many
    return found


def led_to(table, row):
    """The bounds to which a row of a pump leads, or None if it is none."""
    if type(row) is not tuple or len(row) != 4 or not bounds_ok(table, row[0]):
        return None
    bounds, number, parameter, others = row
    if not whole(number) or not 0 <= number < len(table) or split(table, bounds, number) is None:
        return None
    inner = split(table, bounds, number)
    if not whole(parameter) or not 0 <= parameter < len(inner) or type(others) is not tuple:
        return None
    rest = [one for at, one in enumerate(inner) if at != parameter]
    if len(others) != len(rest):
        return None
    if not all([closed_ok(table, one) and keeps(table, two, one) for one, two in zip(others, rest)]):
        return None
    return inner[parameter]


def pump_ok(table, bounds, value):
    if type(value) is not tuple or len(value) != 2 or type(value[0]) is not list or not value[0]:
        return False
    rows, closed = value
    goals = [led_to(table, row) for row in rows]
    if None in goals or rows[0][0] != bounds or goals[-1] not in [row[0] for row in rows]:
        return False
    if goals[:-1] != [row[0] for row in rows[1:]]:
        return False
    return closed_ok(table, closed) and keeps(table, goals[-1], closed)


def has_pump(table, bounds):
    """True if from the bounds, by splits without barren bounds, one comes to bounds that lead to themselves."""
    def leads(one):
        rich = [inner for inner in splits(table, one) if inner is not None and not any([barren(table, two) for two in inner])]
        return [two for inner in rich for two in inner]

    def reached(start):
        found = list(start)
        for one in found:
            found += [two for two in dict.fromkeys(leads(one)) if two not in found]
        return found

    return not barren(table, bounds) and any([one in reached(leads(one)) for one in reached([bounds])])


# Points 32 and 33: covers, bottoms and tops, needless types

def side_bounds(side, value):
    return ((value,), ()) if side == "lower" else ((), (value,))


def on_sides(bounds):
    return [("lower", one) for one in bounds[0]] + [("upper", one) for one in bounds[1]]


def barren_list_ok(table, value):
    if type(value) is not list or not all([bounds_ok(table, one) for one in value]):
        return False
    return all([inner is None or any([two in value for two in inner]) for one in value for inner in splits(table, one)])


def cover_row_ok(table, value):
    if type(value) is not tuple or len(value) != 3 or not bounds_ok(table, value[0]):
        return False
    return type(value[1]) is str and value[1] in ("lower", "upper") and closed_ok(table, value[2])


def covered(table, rows, poor, row):
    bounds, side, closed = row
    for number, inner in enumerate(splits(table, bounds)):
        if inner is None or any([one in poor for one in inner]):
            continue
        goal = split(table, side_bounds(side, closed), number)
        if goal is None:
            return False
        if not all([(one,) + two in rows for one, other in zip(inner, goal) for two in on_sides(other)]):
            return False
    return True


def covers_ok(table, bounds, other, value):
    if type(value) is not tuple or len(value) != 2 or type(value[0]) is not list or not barren_list_ok(table, value[1]):
        return False
    rows, poor = value
    if not all([cover_row_ok(table, row) for row in rows]) or not all([covered(table, rows, poor, row) for row in rows]):
        return False
    return all([(bounds,) + one in rows for one in on_sides(other)])


def without(bounds, side, value):
    at = ("lower", "upper").index(side)
    return tuple([tuple([one for one in types if n != at or one != value]) for n, types in enumerate(bounds)])


def is_inside(table, bounds, other):
    """True if every keeper of the bounds is one of the other ones: the greatest set of such claims that stands."""
    claims = [(bounds, one) for one in on_sides(other)]
    wanted = {}
    for claim in claims:
        one, (side, closed) = claim
        wanted[claim] = []
        for number, inner in enumerate(splits(table, one)):
            if inner is not None and not any([barren(table, two) for two in inner]):
                goal = split(table, side_bounds(side, closed), number)
                more = None if goal is None else [(two, three) for two, four in zip(inner, goal) for three in on_sides(four)]
                wanted[claim].append(more)
                claims += [two for two in dict.fromkeys(more or []) if two not in claims]
    standing, before = set(claims), None
    while before != len(standing):
        before = len(standing)
        for claim in claims:
            if any([more is None or not all([one in standing for one in more]) for more in wanted[claim]]):
                standing.discard(claim)
    return all([(bounds, one) in standing for one in on_sides(other)])


def needless(table, bounds):
    return sorted([one for one in on_sides(bounds) if is_inside(table, without(bounds, *one), side_bounds(*one))])


def end_ok(table, bounds, side, value):
    """True if value is a bottom (for "lower") or top of the bounds."""
    return keeps(table, bounds, value) and is_inside(table, bounds, side_bounds(side, value))
