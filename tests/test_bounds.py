"""kindsunder.bounds: are_bounds, keeps (points 3 and 27)."""

import random
import unittest

from kindsunder.bounds import are_bounds, keeps
from kindsunder.errors import InvalidTable, InvalidType, NotTame, Unsound
from kindsunder.signs import with_best
from kindsunder.wrongs import InvalidBounds
from tests import drawn, oracle, oracle_more, samples
from tests.base import Case

EXAMPLE, RICH, ROUND = samples.EXAMPLE, samples.RICH, samples.ROUND


def tower(number, levels, inner):
    for _ in range(levels):
        inner = (number, inner)
    return inner


class AreBounds(Case):
    def yes(self, value, table=EXAMPLE):
        self.assertTrue(oracle_more.bounds_ok(table, value))
        self.assertIs(are_bounds(table, value), True, value)

    def no(self, value, table=EXAMPLE):
        self.assertFalse(oracle_more.bounds_ok(table, value))
        self.assertIs(are_bounds(table, value), False, value)

    def test_example(self):
        self.same([are_bounds(EXAMPLE, (((3,), (2,)), ())), keeps(EXAMPLE, (((3,),), ()), (2,)), keeps(EXAMPLE, ((), ((0, (2,)),)), (1, (3,)))],
                  [False, True, True])

    def test_sides(self):
        good = ((), ((2,),), ((2,), (3,)), ((0, (2,)), (1, (2,)), (2,)), ((0, (0, (3,))), (0, (2,)), (0, (3,)), (1, (1, (2,))), (2,), (3,)))
        for one in good:
            for two in good:
                self.yes((one, two))
        bad = (((3,), (2,)), ((2,), (2,)), ((2,), (3,), (3,)), ((2,), (0, (2,))), ((0, (3,)), (0, (2,))), ("x",), ("a", (2,)), ((0, "a"),), ((2,), "x"),
               ((0, (0, "a")),), [(2,)], [], ([2],), ((0, [2]),), ((True, (2,)),), ((0,),), ((4,),), ((-1,),), ((2, (2,)),), (None,), ((),), None, "", 0, (2,),
               ((2,), None), (((2,),),))
        for one in bad:
            self.no((one, ()))
            self.no(((), one))
            self.no((one, one))

    def test_forms(self):
        for value in drawn.ODD + [((),), ((), (), ()), [(), ()], ([], ()), ((), []), (None, ()), ((), None), "ab", ((2,), (3,)), {}]:
            if value != ((), ()):
                self.no(value)
        self.yes(((), ()))
        self.yes(((), ()), ())
        self.no((((0,),), ()), ())

    def test_types_of_any_size(self):
        for levels in (5, 6, 7, 30, 100):
            deep = tower(0, levels, (2,))
            self.yes(((deep,), (tower(1, levels, (3,)),)))
            self.yes(((deep, tower(0, levels - 1, (2,))), ()))
            self.no(((tower(0, levels, "x"),), ()))
            self.no(((tower(0, levels, (True,)),), ()))
            self.no(((tower(0, levels, [2]),), ()))
        wide = ((("+", "+"), (), ()), ((), (), ()))
        full = (1,)
        for _ in range(8):
            full = (0, full, full)
            self.yes(((full,), ((1,),)), wide)

    def test_changed_bounds(self):
        rng = random.Random(101)
        for table in samples.GOOD:
            pool = drawn.closed_types(table, 8, 4, 102)
            for _ in range(12):
                bounds = drawn.draw_bounds(rng, pool)
                self.yes(bounds, table)
                for _ in range(5):
                    value = drawn.twisted(rng, bounds, drawn.SPARE)
                    self.assertIs(self.steady(are_bounds, table, value), oracle_more.bounds_ok(table, value), value)

    def test_errors(self):
        self.refuses_tables(are_bounds, ((), ()))
        self.needs_sound(are_bounds, ((), ()))
        self.needs_tame(are_bounds, ((), ()))
        self.fails_in_order(are_bounds, [EXAMPLE, None], [
            (InvalidTable, 0, [EXAMPLE]), (Unsound, 0, samples.OBSTACLE_WILD), (NotTame, 0, samples.WILD)])


class Keeps(Case):
    def test_by_hand(self):
        for lower, upper, closed, wanted in (
                ((), (), (2,), True), (((3,),), (), (3,), True), (((2,),), (), (3,), False), (((2,), (3,)), (), (2,), True), ((), ((2,), (3,)), (2,), False),
                ((), ((2,), (3,)), (3,), True), (((3,),), ((2,),), (2,), True), (((3,),), ((2,),), (0, (2,)), False), (((1, (3,)),), ((0, (2,)),), (0, (3,)), True),
                (((1, (3,)),), ((0, (2,)),), (0, (2,)), True), (((1, (3,)),), ((0, (2,)),), (1, (2,)), False), (((1, (3,)),), ((0, (2,)),), (1, (3,)), True),
                (((0, (2,)), (2,)), (), (2,), False), (((0, (2,)), (2,)), (), (0, (2,)), False)):
            self.same(self.steady(keeps, EXAMPLE, (lower, upper), closed), wanted)

    def test_the_pair_that_comes_round(self):
        self.same([keeps(ROUND, ((), ((0, (1,)),)), (1,)), keeps(ROUND, ((), ((1,),)), (1,)), keeps(ROUND, (((1,),), ()), (0, (0, (1,))))], [False, True, True])

    def test_tables(self):
        rng = random.Random(103)
        seen = {True: 0, False: 0}
        for table in samples.GOOD:
            pool = drawn.closed_types(table, 10, 4, 104)
            for _ in range(12 if pool else 0):
                bounds = drawn.draw_bounds(rng, pool, 2)
                closed = rng.choice(pool)
                wanted = oracle_more.keeps(table, bounds, closed)
                self.same(self.steady(keeps, table, bounds, closed), wanted, (table, bounds, closed))
                if wanted:
                    # A type that keeps bounds keeps them with the best signs, too.
                    self.assertTrue(keeps(with_best(table), bounds, closed))
                seen[wanted] += bounds != ((), ())
        self.assertGreater(min(seen.values()), 40, seen)

    def test_types_of_any_size(self):
        for levels in (7, 30, 100):
            low, high = tower(0, levels, (3,)), tower(0, levels, (2,))
            self.same([keeps(EXAMPLE, ((low,), (high,)), one) for one in (low, high, (0, low), (2,))], [True, True, False, False])

    def test_wrong_bounds(self):
        for value in drawn.ODD + [(((3,), (2,)), ()), ((), ("x",)), [(), ()], (((2,), (2,)), ()), ((), ((0, "a"),)), (((True,),), ())]:
            if not oracle_more.bounds_ok(EXAMPLE, value):
                self.fails(InvalidBounds, keeps, EXAMPLE, value, (2,))

    def test_wrong_types(self):
        for value in drawn.ODD + ["x", "a", (0, "a"), (0,), (4,), [2], (0, [2]), (True, (2,)), tower(0, 50, "x"), tower(0, 50, (False,))]:
            self.fails(InvalidType, keeps, EXAMPLE, ((), ()), value)

    def test_errors(self):
        self.refuses_tables(keeps, ((), ()), (2,))
        self.needs_sound(keeps, ((), ()), (2,))
        self.needs_tame(keeps, ((), ()), (2,))
        self.fails_in_order(keeps, [EXAMPLE, ((), ()), (2,)], [
            (InvalidTable, 0, None), (Unsound, 0, samples.OBSTACLE_WILD), (NotTame, 0, samples.GROW), (InvalidBounds, 1, ()), (InvalidType, 2, "x")])


if __name__ == "__main__":
    unittest.main()
