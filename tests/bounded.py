"""Tables with closed types, and bounds with and without keepers, for the tests of stages 16 to 25."""

import random

from tests import drawn, oracle, oracle_bounds, samples

BARE = ((), (), ())


def chained(sign):
    """Classes 1 and 2 come round to each other below class 0; 3 and 4 lead to 1, one step behind."""
    return (((sign,), (), ()), ((), ((0, (2,)),), ()), ((), ((0, (1,)),), ()), ((), ((0, (4,)),), ()), ((), ((0, (1,)),), ()))


# As chained, but the two chains never meet: types over both have no end.
APART = ((("+",), (), ()), ((), ((0, (2,)),), ()), ((), ((0, (1,)),), ()), ((), ((0, (4,)),), ()), ((), ((0, (2,)),), ()))
# Two parameters of different signs, and classes below them.
PAIRS = ((("+", "-"), (), ()), BARE, ((), ((1,),), ()), ((), ((0, (1,), (2,)),), ()), (("+",), ((0, "a", (1,)),), ()))
EQUAL = ((("=", "*"), (), ()), BARE, ((), ((1,),), ()), (("=",), ((0, "a", (2,)),), ()), ((), ((3, (1,)),), ()))
# All four signs, and pairs that come round.
SIGNED = ((("-", "*"), (), ()), (("=",), ((0, "a", (2,)),), ()), ((), ((0, (0, (2,), (2,)), (2,)),), ()), (("+",), (), ()), ((), ((2,), (3, (2,))), ()))
TREES = ((("+", "+"), (), ()), BARE, ((), ((1,),), ()), (("-",), ((1,),), ()), ((), ((0, (1,), (2,)),), ()))
BY_HAND = (
    samples.EXAMPLE, samples.ROUND, samples.RICH, samples.DIAMOND, chained("+"), chained("-"), chained("="), chained("*"), APART, PAIRS, EQUAL,
    SIGNED, TREES, (BARE,), ((("+",), (), ()), BARE), ((("+",), (), ()),), ())


def tables():
    """The tables by hand, and drawn ones with closed types and supers."""
    found = list(BY_HAND)
    rng = random.Random(301)
    while len(found) < len(BY_HAND) + 26:
        table = samples.draw_table(rng, True, False)
        table = samples.mended(table)
        counts = oracle.counts_of(table)
        if len(table) > 2 and 0 in counts and sum(counts) and sum([len(row[1]) for row in table]) > 1:
            if samples.kind_of(table) == "good" and table not in found:
                found.append(table)
    return found


TABLES = tables()


def pool_of(table, many=10, seed=302):
    """Closed types with a depth of at most 4 and at most 12 parts, and ones above them."""
    found = [one for one in drawn.closed_types(table, many * 2, 4, seed) if oracle.size(one) <= 12]
    return found[:many]


def near(rng, table, pool, most=2):
    """Bounds about a type of the pool, which keeps them if nothing else is put in."""
    middle = rng.choice(pool)
    sides = []
    for under in (True, False):
        some = [one for one in pool if oracle_bounds.under(table, *((one, middle) if under else (middle, one)))]
        sides.append(rng.sample(some, min(len(some), rng.randrange(most + 1))))
        if rng.random() < 0.12:
            sides[-1].append(rng.choice(pool))
    return tuple([tuple(sorted(set(side))) for side in sides])


def bounds_of(table, many, seed=303, most=2):
    """So many bounds for the table, the empty ones first; only these if it has no closed types."""
    rng = random.Random(seed)
    pool = pool_of(table)
    found = [((), ())]
    for _ in range(many * 20 if pool else 0):
        one = near(rng, table, pool, most)
        if len(found) < many and one not in found:
            found.append(one)
    return found


def cases(many, seed=304, most=2):
    """Tuples (table, bounds) for all tables."""
    return [(table, bounds) for table in TABLES for bounds in bounds_of(table, many, seed, most)]
