"""Programs, bounds and changed values that are drawn for the tests."""

import random

from tests import oracle, oracle_more, samples

# Odd values, the empty tuple among them, which is no odd one in place of a table; and deeper ones, for stages 16 to 25.
ODD = samples.ODD + [(), samples.nested(0, 30), samples.nested((), 30, list), samples.nested((0,), 29), samples.nested(((2,), (3,)), 28)]
SPARE = ODD + [
    0, 1, 2, 3, 4, 7, 12, 13, 200, 201, "a", "x", "+", "-", "=", "*", "get", "put", "both", "new", "copy", "read", "write",
    "ask", "jump", "super", "member", "ring", "obstacle", "clash", "name", (0,), (1,), (2,), (3,), (0, (2,)), (1, (3,)),
    (0, "a"), (1, "x"), [(0,)], ((2,), (3,)), ((), ()), ((((3,),)), ()), (0, 0), [0, 1]]


def closed_types(table, many, deepest=4, seed=1):
    """Closed types of the table, small ones and large ones, and closed types above them; none if there is none."""
    counts = oracle.counts_of(table)
    if 0 not in counts:
        return []
    rng = random.Random(seed)
    found = [(number,) for number, count in enumerate(counts) if count == 0]
    for _ in range(200):
        if len(found) >= many:
            break
        one = samples.any_type(rng, counts, [], rng.randrange(1, deepest + 1), 31)
        for number in [one[0]] + list(oracle.classes_above(table, one[0])):
            raised = oracle.above(table, one, number)
            if raised not in found and oracle.depth(raised) <= deepest:
                found.append(raised)
    return found


def draw_row(rng, table, boxes, rows, at, pool):
    """A row of a program, at this number; the names are mostly offered ones, and the first rows are mostly "new"."""
    word = rng.choice(("new", "copy", "read", "read", "write", "write", "write", "ask", "jump"))
    if at < len(boxes) and rng.random() < 0.8:
        word = "new"
    x, y = rng.randrange(len(boxes)), rng.randrange(len(boxes))
    value = boxes[x] if rng.random() < 0.4 else rng.choice(pool)

    def names(one):
        known = [row[0] for row in oracle_more.offers(table, one)]
        return known if known and rng.random() < 0.9 else known + [rng.randrange(10)]

    if word == "new":
        known = names(value)
        some = sorted(set(rng.sample(known, min(len(known), rng.randrange(3)))))
        return ("new", x, value, tuple([(name, rng.randrange(len(boxes))) for name in some]))
    if word == "copy":
        return ("copy", x, y)
    if word == "read":
        return ("read", x, y, rng.choice(names(boxes[y])))
    if word == "write":
        return ("write", x, rng.choice(names(boxes[x])), y)
    goal = rng.randrange(at + 1 if rng.random() < 0.9 else 0, rows + 1)
    return ("ask", x, value, goal) if word == "ask" else ("jump", goal)


def draw_program(rng, table, pool, fits):
    """A program; if it is to fit, only rows that fit are taken, otherwise most of them."""
    boxes = tuple([rng.choice(pool) for _ in range(rng.randrange(1, 7))])
    many = rng.randrange(13)
    rows = []
    for _ in range(many):
        for _ in range(40):
            row = draw_row(rng, table, boxes, many, len(rows), pool)
            fine = oracle_more.row_fits(table, boxes, row)
            if fine or (not fits and rng.random() < 0.2):
                rows.append(row)
                break
        else:
            rows.append(("jump", len(rows) + 1))
    return (boxes, tuple(rows))


def twisted(rng, value, spare):
    """The value with one thing in it changed: replaced, taken out, doubled, swapped, or made another kind."""
    if isinstance(value, bool) or value is None:
        return rng.choice((int(bool(value)), None, True, False, rng.choice(spare)))
    if isinstance(value, int):
        return rng.choice((value + 1, value - 1, bool(value), str(value), -value, rng.choice(spare), None))
    if isinstance(value, str):
        return rng.choice((value + value, value.upper(), "", "+", "-", "a", "b", [value], (value,), rng.choice(spare), None))
    if not value or rng.random() < 0.12:
        return rng.choice((list(value), tuple(value), [], (), rng.choice(spare), value + value, (value,), [value]))
    at = rng.randrange(len(value))
    chance = rng.random()
    if chance < 0.1:
        return value[:at] + value[at + 1:]
    if chance < 0.2:
        return value[:at] + value[at:at + 1] + value[at:]
    if chance < 0.3:
        other = rng.randrange(len(value))
        rows = list(value)
        rows[at], rows[other] = rows[other], rows[at]
        return type(value)(rows)
    rows = list(value)
    rows[at] = twisted(rng, value[at], spare)
    return type(value)(rows)


def draw_bounds(rng, pool, most=3):
    """Bounds with types of the pool."""
    return tuple([tuple(sorted(rng.sample(pool, min(len(pool), rng.randrange(most + 1))))) for _ in range(2)])
