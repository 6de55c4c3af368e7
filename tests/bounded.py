"""Tables with closed types, and bounds with and without keepers, for the tests of stages 16 to 25."""

import random

from tests import drawn, oracle, oracle_bounds, samples

BARE = ((), (), ())


def chained(sign):
    """Classes 1 and 2 come round to each other below class 0; 3 and 4 lead to 1, one step behind."""
    return (((sign,), (), ()), ((), ((0, (2,)),), ()), ((), ((0, (1,)),), ()), ((), ((0, (4,)),), ()), ((), ((0, (1,)),), ()))


# As chained, but the two chains never meet: types over both have no end.
APART = ((("+",), (), ()), ((), ((0, (2,)),), ()), ((), ((0, (1,)),), ()), ((), ((0, (4,)),), ()), ((), ((0, (2,)),), ()))
# Two parameters of different signs, and classes below them.
PAIRS = ((("+", "-"), (), ()), BARE, ((), ((1,),), ()), ((), ((0, (1,), (2,)),), ()), (("+",), ((0, "a", (1,)),), ()))
EQUAL = ((("=", "*"), (), ()), BARE, ((), ((1,),), ()), (("=",), ((0, "a", (2,)),), ()), ((), ((3, (1,)),), ()))
# All four signs, and pairs that come round.
SIGNED = ((("-", "*"), (), ()), (("=",), ((0, "a", (2,)),), ()), ((), ((0, (0, (2,), (2,)), (2,)),), ()), (("+",), (), ()), ((), ((2,), (3, (2,))), ()))
TREES = ((("+", "+"), (), ()), BARE, ((), ((1,),), ()), (("-",), ((1,),), ()), ((), ((0, (1,), (2,)),), ()))
BY_HAND = (
    samples.EXAMPLE, samples.ROUND, samples.RICH, samples.DIAMOND, chained("+"), chained("-"), chained("="), chained("*"), APART, PAIRS, EQUAL,
    SIGNED, TREES, (BARE,), ((("+",), (), ()), BARE), ((("+",), (), ()),), ())


def tables():
    """The tables by hand, and drawn ones with closed types and supers."""
    found = list(BY_HAND)
    rng = random.Random(301)
    while len(found) < len(BY_HAND) + 26:
        table = samples.draw_table(rng, True, False)
        table = samples.mended(table)
        counts = oracle.counts_of(table)
        if len(table) > 2 and 0 in counts and sum(counts) and sum([len(row[1]) for row in table]) > 1:
            if samples.kind_of(table) == "good" and table not in found:
                found.append(table)
    return found


TABLES = tables()


def pool_of(table, many=10, seed=302):
    """Closed types with a depth of at most 4 and at most 12 parts, and ones above them."""
    found = [one for one in drawn.closed_types(table, many * 2, 4, seed) if oracle.size(one) <= 12]
    return found[:many]


def near(rng, table, pool, most=2):
    """Bounds about a type of the pool, which keeps them if nothing else is put in."""
    middle = rng.choice(pool)
    sides = []
    for under in (True, False):
        some = [one for one in pool if oracle_bounds.under(table, *((one, middle) if under else (middle, one)))]
        sides.append(rng.sample(some, min(len(some), rng.randrange(most + 1))))
        if rng.random() < 0.12:
            sides[-1].append(rng.choice(pool))
    return tuple([tuple(sorted(set(side))) for side in sides])


def bounds_of(table, many, seed=303, most=2):
    """So many bounds for the table, the empty ones first; only these if it has no closed types."""
    rng = random.Random(seed)
    pool = pool_of(table)
    found = [((), ())]
    for _ in range(many * 20 if pool else 0):
        one = near(rng, table, pool, most)
        if len(found) < many and one not in found:
            found.append(one)
    return found


def cases(many, seed=304, most=2):
    """Tuples (table, bounds) for all tables."""
    return [(table, bounds) for table in TABLES for bounds in bounds_of(table, many, seed, most)]


def pattern(rng, table, names):
    """A type for a signature with these letters, or None if there is none."""
    counts = oracle.counts_of(table)
    if not names and 0 not in counts:
        return None
    if names and rng.random() < 0.25:
        return rng.choice(names)
    return samples.any_type(rng, counts, names, rng.choice((1, 1, 2, 2, 3)), 5)


def signature(rng, table):
    """A signature, or None."""
    many = rng.choice((0, 1, 1, 2, 2))
    names = ["a", "b"][:many]
    found = [pattern(rng, table, names) for _ in range(rng.choice((0, 1, 1, 2, 2, 3)) + 1)]
    return None if None in found else (many, tuple(found[1:]), found[0])


def fitting(rng, table, pool, shape):
    """A closed type that is under the type with closed types for its letters, mostly."""
    chosen = [rng.choice(pool), rng.choice(pool)]
    upper = oracle.put(shape, chosen)
    some = [one for one in pool if oracle_bounds.under(table, one, upper)]
    if some and rng.random() < 0.6:
        return rng.choice(some)
    return upper if rng.random() < 0.7 else rng.choice(pool)


def call(rng, table, pool):
    """A call, or None."""
    one = signature(rng, table)
    if one is None:
        return None
    arguments = tuple([fitting(rng, table, pool, shape) for shape in one[1]])
    wish = None
    if rng.random() < 0.5:
        wish = oracle.put(one[2], [rng.choice(pool), rng.choice(pool)]) if rng.random() < 0.7 else rng.choice(pool)
    return (one, arguments, wish)


def calls(many, seed):
    """Tuples (table, call) for all tables with closed types."""
    rng = random.Random(seed)
    found = []
    for table in TABLES:
        pool = pool_of(table, 12)
        for _ in range(many if pool else 0):
            one = call(rng, table, pool)
            if one is not None:
                found.append((table, one))
    return found


def once(rng, table, names, deepest=3):
    """A type in which each of the letters stands at most once, with a depth of at most 3 and at most 5 parts."""
    counts = oracle.counts_of(table)
    for _ in range(60):
        shape = rng.choice(names) if names and rng.random() < 0.25 else samples.any_type(rng, counts, names, rng.choice((1, 2, 2, deepest)), 5)
        if len(set(oracle.letters(shape))) == len(oracle.letters(shape)):
            return shape
    return (counts.index(0),)


def half(rng, table, pool):
    """A half; its limits are often those that a split has."""
    shape = once(rng, table, rng.choice((["a"], ["a", "b"], ["b"])))
    return (shape, tuple([near(rng, table, pool, 1) for _ in oracle.letters(shape)]))


def halves(many, seed):
    """Tuples (table, first, second) of halves for all tables with closed types, often about the same closed type."""
    rng = random.Random(seed)
    found = []
    for table in TABLES:
        pool = pool_of(table, 10)
        for _ in range(many if pool else 0):
            first, second = half(rng, table, pool), half(rng, table, pool)
            if rng.random() < 0.3:
                second = (first[0], tuple([near(rng, table, pool, 1) for _ in first[1]]))
            found.append((table, first, second))
    return found


def nested(rng, table, pool):
    """A nested call, or None."""
    inner, outer = call(rng, table, pool), call(rng, table, pool)
    if inner is None or outer is None or not outer[0][1]:
        return None
    number = rng.randrange(len(outer[0][1]))
    for shape in (inner[0][2], outer[0][1][number]):
        if len(set(oracle.letters(shape))) < len(oracle.letters(shape)):
            return None
    return (inner[0], inner[1], outer[0], number, outer[1][:number] + outer[1][number + 1:], outer[2])


def nested_calls(many, seed):
    """Tuples (table, call) with nested calls."""
    rng = random.Random(seed)
    found = []
    for table in TABLES:
        pool = pool_of(table, 12)
        some = [nested(rng, table, pool) for _ in range(many if pool else 0)]
        found += [(table, one) for one in some if one is not None]
    return found
