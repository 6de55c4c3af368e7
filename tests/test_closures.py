"""kindsunder.closures: moves (point 15), closure (points 5 and 16)."""

import random
import unittest

from kindsunder.closures import closure, moves
from kindsunder.errors import InvalidTable, InvalidType, InvalidTypes, NotTame
from tests import oracle, samples
from tests.base import Case, bad_types, with_parts

EXAMPLE, GROW = samples.EXAMPLE, samples.GROW
TWO = (("+", "+"), (), ())
TAME = [table for table in samples.TABLES if oracle.tame(table)]


class Moves(Case):
    def test_example(self):
        self.same(moves(GROW, (1, "x")), ["x", (0, (1, (0, "x")))])

    def test_by_hand(self):
        table = (TWO, (("+", "+"), ((0, (2,), "b"), (0, "b", "a")), ()), ((), (), ()))
        self.same(moves(table, (1, "x", (2,))), ["x", (2,), (0, (2,), (2,)), (0, (2,), "x")])
        self.same(moves(table, (1, "b", "a")), ["b", "a", (0, (2,), "a"), (0, "a", "b")])
        self.same(moves(table, "a"), [])
        self.same(moves(table, (2,)), [])
        self.same(moves((), "x"), [])

    def test_equal_ones_as_often_as_they_come(self):
        table = ((("+",), (), ()), (("+", "+"), ((0, "a"), (0, "a")), ()), ((), (), ()))
        self.same(moves(table, (1, "x", "x")), ["x", "x", (0, "x"), (0, "x")])
        table = (((), (), ()), (("+",), ((0,), (0,)), ()))
        self.same(moves(table, (1, (0,))), [(0,), (0,), (0,)])

    def test_tables(self):
        for table in samples.TABLES:
            for shape in samples.types_of(table, 12, 17, "abx"):
                self.same(self.steady(moves, table, shape), oracle.moves(table, shape), (table, shape))

    def test_errors(self):
        self.refuses_tables(moves, "x")
        for table in (EXAMPLE, samples.RICH, samples.RING, GROW, ()):
            self.refuses_types(moves, table, 0, None)
        self.fails_in_order(moves, [EXAMPLE, "x"], [(InvalidTable, 0, 0), (InvalidType, 1, (2, "x"))])


class Closure(Case):
    def test_example(self):
        self.same(closure(EXAMPLE, ((1, (3,)),)), [(0, (3,)), (1, (3,)), (2,), (3,)])

    def test_by_hand(self):
        self.same(closure(EXAMPLE, ()), [])
        self.same(closure((), ("x", "a", "x")), ["a", "x"])
        self.same(closure(EXAMPLE, ("x", (1, "x"), (1, "x"), (3,))), [(0, "x"), (1, "x"), (2,), (3,), "x"])
        self.same(closure(samples.RING, ((1,),)), [(0,), (1,), (2,)])
        self.same(closure(samples.ROUND, ((1,),)), [(0, (0, (1,))), (0, (1,)), (1,)])

    def test_the_order_of_the_texts(self):
        """The texts count: "(" stands before "," and digits stand before letters."""
        table = ((("+", "+"), (), ()), (("+",), (), ()), ((), (), ()))
        found = closure(table, ((0, (1, "x"), (2,)), (0, (2,), (1, (2,))), (1, (1, "a"))))
        self.same(found, [(0, (1, "x"), (2,)), (0, (2,), (1, (2,))), (1, (1, "a")), (1, (2,)), (1, "a"), (1, "x"), (2,), "a", "x"])

    def test_tables(self):
        rng = random.Random(18)
        for table in TAME:
            types = samples.types_of(table, 10, 19)
            for many in (0, 1, 2, 3, 4):
                some = tuple([rng.choice(types) for _ in range(many)])
                self.same(self.steady(closure, table, some), oracle.closure(table, some), (table, some))

    def test_depths_of_closures(self):
        """Point 16: a depth of at most 1 + k + m n."""
        for table in TAME:
            types = tuple(samples.types_of(table, 12, 28)[-4:])
            most = max([oracle.depth(one) for row in table for one in row[1]], default=0)
            start = max([most] + [oracle.depth(one) for one in types])
            rise = max([one for row in oracle.levels(table) for one in row], default=0)
            for one in closure(table, types):
                self.assertLessEqual(oracle.depth(one), 1 + start + most * rise)

    def test_needs_stay_within(self):
        """Point 16: in a sound table the pairs that a pair of a closure needs are pairs of the closure."""
        for table in samples.GOOD:
            found = closure(table, tuple(samples.types_of(table, 9, 29)[-2:]))
            known = set(found)
            for s in found[:12]:
                for t in found[-12:]:
                    for pair in oracle.needs(table, s, t) or []:
                        self.assertTrue(known.issuperset(pair), (table, s, t, pair))

    def test_greatest_types(self):
        table = (TWO, (("+",), ((0, "a", (2,)),), ()), ((), (), ()))
        wide = with_parts([2, 1, 0], 0, 25)
        self.same(closure(table, (wide,)), oracle.closure(table, (wide,)))
        chain = ((("+",), (), ()), (("+",), ((0, (0, (0, "a"))),), ()), (("+",), ((1, (1, (1, "a"))),), ()))
        deep = (2, (2, (2, (2, (2, (2, "x"))))))
        self.same(closure(chain, (deep,)), oracle.closure(chain, (deep,)))

    def test_tables_that_are_not_tame(self):
        for table in samples.TABLES:
            if not oracle.tame(table):
                for types in ((), ("x",), None, [()]):
                    self.fails(NotTame, closure, table, types)

    def test_tables_with_faults(self):
        for table in (samples.RING, samples.OBSTACLE, samples.CLASH, samples.NAME):
            for shape in samples.types_of(table, 6, 20):
                self.same(closure(table, (shape,)), oracle.closure(table, (shape,)))

    def test_wrong_types(self):
        for table in (EXAMPLE, samples.RICH, samples.RING, ()):
            for value in samples.ODD + bad_types(table):
                if isinstance(value, tuple) and len(value) <= 4 and all(oracle.passable(table, one) for one in value):
                    self.same(closure(table, value), oracle.closure(table, value))
                else:
                    self.fails(InvalidTypes, closure, table, value)
                for types in ((value,), ("x", value), ("x", "x", "x", value)):
                    if oracle.passable(table, value):
                        self.same(closure(table, types), oracle.closure(table, types))
                    else:
                        self.fails(InvalidTypes, closure, table, types)
            self.fails(InvalidTypes, closure, table, ["x"])
            self.fails(InvalidTypes, closure, table, ("x",) * 5)
            self.same(closure(table, ("x",) * 4), ["x"])

    def test_errors(self):
        self.refuses_tables(closure, ("x",))
        self.fails_in_order(closure, [EXAMPLE, ("x",)], [
            (InvalidTable, 0, 0), (NotTame, 0, GROW), (InvalidTypes, 1, ["x"])])
        self.fails_in_order(closure, [EXAMPLE, ("x",)], [
            (InvalidTable, 0, 0), (NotTame, 0, samples.FAULTY_WILD), (InvalidTypes, 1, "x")])


if __name__ == "__main__":
    unittest.main()
