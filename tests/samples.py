"""Tables, types and odd values for the tests: some by hand, many drawn with fixed seeds."""

import random

from tests import oracle

# The tables of the examples of the document.
EXAMPLE = ((('+',), (), ((0, 'get', 'a'),)), (('=',), ((0, 'a'),), ((1, 'put', 'a'),)), ((), (), ()), ((), ((2,),), ()))
GROW = ((('+',), (), ()), (('+',), ((0, (1, (0, 'a'))),), ()))

# A sound and tame table with the pair that comes round to itself: (1,) and (0, (1,)).
ROUND = ((('-',), (), ()), ((), ((0, (0, (1,))),), ()))

# Sound and tame, with all four signs, two parameters, and a way of two steps.
RICH = (
    (('+', '-'), (), ((0, 'get', 'a'), (1, 'put', 'b'))),
    (('=', '*'), ((0, 'a', (2,)),), ((2, 'both', 'a'),)),
    ((), (), ()),
    ((), ((2,),), ((3, 'get', (1, (2,), (3,))),)),
    (('=',), ((1, 'a', (3,)),), ((4, 'put', 'a'),)),
)

# Sound and tame, with two ways from class 3 to class 0 that lead to the same instance.
DIAMOND = (
    (('+',), (), ((0, 'get', 'a'),)), (('+',), ((0, 'a'),), ()), (('+',), ((0, 'a'),), ()),
    (('+',), ((1, 'a'), (2, 'a')), ()), ((), ((3, (4,)),), ()))

# Sound, but not tame; with a chain of classes, so that types move up and grow.
WILD = GROW + (((), ((1, (2,)),), ()), (('=',), ((1, 'a'),), ()))

# One table for each form of a fault, and none of the earlier forms.
RING = (((), ((1,),), ()), ((), ((2,),), ()), ((), ((0,),), ()))
SELF_RING = (((), (), ()), ((), ((1,),), ()))
OBSTACLE = ((('+',), (), ()), (('-',), ((0, 'a'),), ()))
MEMBER_OBSTACLE = ((('+',), (), ((0, 'get', 'a'), (1, 'put', 'a'))),)
CLASH = ((('+',), (), ()), ((), (), ()), ((), ((1,), (0, (1,))), ()), ((), ((2,), (0, (2,))), ()))
NAME = (((), (), ((3, 'get', (0,)),)), ((), (), ((4, 'get', (0,)), (3, 'put', (0,)))), ((), ((0,), (1,)), ()))
RING_AND_MORE = ((('+',), ((1, 'a'),), ((0, 'put', 'a'),)), (('+',), ((0, 'a'),), ()))
OBSTACLE_AND_MORE = (
    (('+',), (), ((1, 'put', 'a'),)), ((), (), ()), ((), ((0, (1,)), (0, (2,))), ()), ((), ((2,),), ((1, 'get', (1,)),)))
CLASH_AND_NAME = (
    (('+',), (), ((1, 'get', 'a'),)), ((), (), ()), ((), ((0, (1,)), (0, (2,))), ()), ((), ((2,),), ((1, 'get', (1,)),)))
# With a fault, and not tame.
FAULTY_WILD = ((('+',), ((0, (0, 'a')),), ()),)
OBSTACLE_WILD = GROW[:1] + ((('+',), GROW[1][1], ((0, 'put', 'a'),)),)

FAULTY = (RING, SELF_RING, OBSTACLE, MEMBER_OBSTACLE, CLASH, NAME, RING_AND_MORE, OBSTACLE_AND_MORE, CLASH_AND_NAME,
          FAULTY_WILD, OBSTACLE_WILD)


def nested(value, levels, kind=tuple):
    for _ in range(levels):
        value = kind([value])
    return value


# Values of all kinds, none of which is a table but (), and of which only a few are anything else.
ODD = [
    None, True, False, -1, 2, 5, 6, 10, 31, -10 ** 30, 10 ** 30, "", "A", "ab", "+-", "1", "get", "lower", " ", "{",
    [], [[]], [()], [0], ["a"], ["+"], (None,), ((),), ([],), (True,), (False,), ("a",), ("a", "b"), ("+",), (0, 1, 2),
    (0, 0, 0, 0, 0, 0), (-1,), (5,), (9,), ("0",), (0, None), ((0,),), ((0,), (0,)), ("get", "put"),
    nested("a", 12), nested(0, 12), nested([], 11), nested(0, 12, list), ((("+",), (), ()), None), ((("+",), (), []),),
]


# What is drawn

def linear(rng, counts, number, free, deepest):
    """A class type of the class, or a variable, in which each of the free letters stands at most once."""
    if number is None:
        return free.pop(rng.randrange(len(free)))
    found = [number]
    for _ in range(counts[number]):
        inner = None if free and (rng.random() < 0.6 or deepest <= 1) else rng.randrange(len(counts))
        if inner is not None and deepest <= 1:
            return None
        argument = linear(rng, counts, inner, free, deepest - 1)
        if argument is None:
            return None
        found.append(argument)
    return tuple(found)


def any_type(rng, counts, names, deepest, largest):
    """A type with at most this depth and so many parts; with variables of these names."""
    while True:
        found = loose(rng, counts, names, deepest)
        if oracle.depth(found) <= deepest and oracle.size(found) <= largest:
            return found


def loose(rng, counts, names, deepest):
    bare = [number for number, count in enumerate(counts) if count == 0]
    if names and (rng.random() < 0.3 or not counts):
        return rng.choice(names)
    if deepest <= 1 and (bare or names):
        return (rng.choice(bare),) if bare and (not names or rng.random() < 0.5) else rng.choice(names)
    number = rng.randrange(len(counts))
    return (number,) + tuple([loose(rng, counts, names, deepest - 1) for _ in range(counts[number])])


def draw_class(rng, counts, number, ordered, names):
    free = ["a", "b"][:counts[number]]
    supers, members = [], []
    heads = number if ordered else len(counts)
    for _ in range(rng.choice((0, 1, 1, 1, 2)) if heads else 0):
        one = linear(rng, counts, rng.randrange(heads), list(free), 3)
        if one is not None and oracle.super_ok(counts, len(free), one):
            supers.append(one)
    for _ in range(rng.choice((0, 1, 1, 2, 3))):
        closed_ends = 0 in counts
        if names and (free or closed_ends):
            use = rng.choice(("get", "put", "both"))
            members.append((names.pop(), use, any_type(rng, counts, free, 3, 5)))
    return (), tuple(supers), tuple(members)


def draw_table(rng, ordered, same_names):
    counts = [rng.choice((0, 1, 1, 2)) for _ in range(rng.choice((1, 2, 3, 3, 4, 4, 5, 5)))]
    if rng.random() < 0.8:
        counts[0] = 0
    names = list(range(10))
    rng.shuffle(names)
    table = []
    for number, count in enumerate(counts):
        if same_names:
            names = rng.sample(range(10), 4)
        signs = tuple([rng.choice("++--=*") for _ in range(count)])
        table.append((signs,) + draw_class(rng, counts, number, ordered, names)[1:])
    return tuple(table)


def mended(table):
    """The table with the sign "=" for each parameter that has an obstacle, until none has one."""
    while True:
        wrong = {one[:2] for one in oracle.table_obstacles(table)}
        if not wrong:
            return table
        table = tuple([
            (tuple(["=" if (number, at) in wrong else sign for at, sign in enumerate(row[0])]),) + row[1:]
            for number, row in enumerate(table)])


def merges(table):
    """True if, in a table in order, different instances become equal when the arguments of a super are put into them."""
    for low, row in enumerate(table):
        for shape in row[1]:
            for high in oracle.classes_above(table, shape[0]):
                some = set(oracle.instances(table, shape[0], high))
                if len({oracle.put(one, shape[1:]) for one in some}) < len(some):
                    return True
    return False


def renumbered(table, places):
    """The table with its classes at other places: class number n at places[n]."""
    def moved(one):
        return one if type(one) is str else (places[one[0]],) + tuple([moved(inner) for inner in one[1:]])

    rows = [None] * len(table)
    for number, (signs, supers, members) in enumerate(table):
        rows[places[number]] = (
            signs, tuple([moved(one) for one in supers]), tuple([(name, use, moved(one)) for name, use, one in members]))
    return tuple(rows)


def merging(many):
    """So many tables in order in which instances become equal; some with obstacles and double names, too."""
    rng = random.Random(21)
    found = []
    while len(found) < many:
        top, low = rng.choice((1, 1, 2)), rng.choice((1, 1, 2))
        inner = [(0,), (1,), (0,)] + ["a", "b"][:low] * 3

        def signs(count):
            return tuple([rng.choice("====+") for _ in range(count)])

        def supers(number, count, choices):
            return tuple([(number,) + tuple([rng.choice(choices) for _ in range(count)]) for _ in range(2)])

        table = (
            ((), (), ((1, "get", (0,)),) * rng.randrange(2)), ((), ((0,),) * rng.randrange(2), ()),
            (signs(top), (), ((2, "get", "a"),)), (signs(low), supers(2, top, inner), ((rng.randrange(4), "get", (1,)),)),
            (signs(1), supers(3, low, [(0,), (1,), "a"])[:rng.choice((1, 1, 2))], ()))
        table = renumbered(table, rng.sample(range(5), 5))
        if oracle.table_ok(table) and merges(table) and table not in found:
            found.append(table)
    return found


def kind_of(table):
    """What a table is drawn as: the form of its faults, or whether it is tame."""
    if not oracle.in_order(table):
        return "ring"
    if oracle.table_obstacles(table):
        return "obstacle"
    if oracle.clashes(table):
        return "clash"
    if oracle.double_names(table):
        return "name"
    return "good" if oracle.tame(table) else "wild"


def draw():
    """Lists of tables by their kinds."""
    rng = random.Random(20)
    limits = {"good": 45, "wild": 18, "ring": 16, "obstacle": 16, "clash": 16, "name": 16}
    found = {kind: [] for kind in limits}
    for table in (EXAMPLE, ROUND, RICH, DIAMOND, (), EXAMPLE[2:3], GROW, WILD) + FAULTY:
        found[kind_of(table)].append(table)
    while any([len(found[kind]) < limits[kind] for kind in limits]):
        ordered = rng.random() < 0.8
        table = draw_table(rng, ordered, rng.random() < 0.3)
        if ordered and rng.random() < 0.8:
            table = mended(table)
        kind = kind_of(table)
        if len(found[kind]) < limits[kind] and table not in found[kind]:
            found[kind].append(table)
    return found


DRAWN = draw()
GOOD, WILDS = DRAWN["good"], DRAWN["wild"]
OTHERS = DRAWN["ring"] + DRAWN["obstacle"] + DRAWN["clash"] + DRAWN["name"]
SOUND = GOOD + WILDS
TABLES = GOOD + WILDS + OTHERS


def types_of(table, many, seed=1, names="abx", deepest=6, largest=25):
    """So many types of the table, small ones and large ones, variables among them."""
    rng = random.Random(seed)
    counts = oracle.counts_of(table)
    found = list(names[:1])
    for number, count in enumerate(counts):
        found.append((number,) + ("a", "b")[:count])
    while len(found) < many:
        limit = rng.randrange(1, deepest + 1)
        found.append(any_type(rng, counts, list(names), limit, largest))
    return found[:many]


def pairs_of(table, many, seed=1):
    """So many pairs of types, also of ones that a type and its supertypes are put together from."""
    rng = random.Random(seed)
    types = types_of(table, 12, seed)
    found = []
    for one in list(types):
        if type(one) is tuple:
            for number in oracle.classes_above(table, one[0]):
                two = oracle.above(table, one, number)
                found.append((one, two) if oracle.passable(table, two) else (one, one))
    rng.shuffle(found)
    found = found[:many // 2]
    while len(found) < many:
        found.append((rng.choice(types), rng.choice(types)))
    return found
