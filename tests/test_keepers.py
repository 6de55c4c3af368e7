"""kindsunder.keepers: keeper, floors_of, are_floors (points 3, 27 and 29)."""

import random
import unittest

from kindsunder.errors import InvalidTable, NotTame, Unsound
from kindsunder.keepers import are_floors, floors_of, keeper
from kindsunder.wrongs import InvalidBounds
from tests import bounded, drawn, oracle, oracle_bounds, samples
from tests.base import Case

EXAMPLE = samples.EXAMPLE
NONE = ((), ())
BOUNDS = ((), ((0, (2,)),))
POOR = (((0, (2,)), (2,)), ())


class Keeper(Case):
    def test_example(self):
        self.same([keeper(EXAMPLE, BOUNDS), keeper(EXAMPLE, POOR), floors_of(EXAMPLE, POOR)[0][1], are_floors(EXAMPLE, BOUNDS, [(BOUNDS, 2), (((), ((2,),)), 1)])],
                  [(0, (2,)), None, None, True])

    def test_least_depth_first(self):
        """The depth counts ahead of the class, and the class ahead of the arguments."""
        self.same(keeper(EXAMPLE, NONE), (2,))
        self.same(keeper(EXAMPLE, ((), ((2,),))), (2,))
        self.same(keeper(EXAMPLE, ((), ((3,),))), (3,))
        self.same(keeper(EXAMPLE, (((1, (3,)),), ())), (0, (2,)))
        self.same(keeper(EXAMPLE, (((1, (3,)),), ((1, (3,)),))), (1, (3,)))
        table = ((("+", "+"), (), ()), (("+",), (), ()), ((), ((0, (3,), (1, (3,))),), ()), ((), (), ()))
        self.same(keeper(table, (((2,),), ())), (2,))
        self.same(keeper(table[:2] + (((), ((0, (3,), (1, (3,))),), ()), ((), (), ())), (((0, (3,), (1, (3,))),), ())), (0, (3,), (1, (3,))))

    def test_chains(self):
        """Types over two chains: as deep as the place where the chains meet."""
        table = bounded.chained("+")
        self.same(keeper(table, (((1,), (3,)), ())), (0, (0, (1,))))
        self.same(keeper(table, (((2,), (4,)), ())), (0, (1,)))
        self.same(keeper(table, (((1,), (2,)), ())), None)
        self.same(keeper(bounded.APART, (((1,), (3,)), ())), None)
        self.same(keeper(bounded.APART, (((2,), (3,)), ())), (0, (0, (2,))))

    def test_no_types_at_all(self):
        self.same([keeper((), NONE), floors_of((), NONE)], [None, [(NONE, None)]])
        self.same(keeper(((("+",), (), ()),), NONE), None)
        self.same(keeper(((("+",), (), ()), ((), ((0, (1,)),), ())), NONE), (1,))

    def test_tables(self):
        depths = []
        for table, bounds in bounded.cases(14, 321) + bounded.cases(6, 322, 3):
            found = self.steady(keeper, table, bounds)
            self.same(found, oracle_bounds.first_keeper(table, bounds), (table, bounds))
            if found is not None:
                self.assertTrue(oracle_bounds.keeps(table, bounds, found), (table, bounds, found))
            depths.append(found and oracle.depth(found))
        self.assertGreater(depths.count(None), 30)
        self.assertTrue({1, 2, 3, 4} <= set(depths))

    def test_against_all_types_of_small_depth(self):
        seen = 0
        for table, bounds in bounded.cases(10, 323):
            found = keeper(table, bounds)
            some = oracle_bounds.closed_types(table, 3)
            least = sorted([(oracle.depth(one), one[0]) for one in some if oracle_bounds.keeps(table, bounds, one)])
            deepest = max([oracle.depth(one) for one in some], default=0)
            if least:
                self.assertEqual((oracle.depth(found), found[0]), least[0])
                seen += 1
            else:
                self.assertTrue(found is None or oracle.depth(found) > deepest)
        self.assertGreater(seen, 200)

    def test_errors(self):
        for function, more in ((keeper, []), (floors_of, []), (are_floors, [[]])):
            self.refuses_tables(function, NONE, *more)
            self.needs_sound(function, NONE, *more)
            self.needs_tame(function, NONE, *more)
            self.refuses_bounds(function, [EXAMPLE, NONE] + more, 1)
            self.fails_in_order(function, [EXAMPLE, NONE] + more, [
                (InvalidTable, 0, 5), (Unsound, 0, samples.FAULTY_WILD), (NotTame, 0, samples.WILD), (InvalidBounds, 1, "")])


class FloorsOf(Case):
    def test_tables(self):
        for table, bounds in bounded.cases(12, 324) + bounded.cases(6, 325, 3):
            rows = self.steady(floors_of, table, bounds)
            self.assertTrue(oracle_bounds.floors_ok(table, bounds, rows), (table, bounds, rows))
            self.assertEqual(rows[0][1], oracle_bounds.depths(table, bounds)[bounds], (table, bounds))
            self.assertIs(are_floors(table, bounds, rows), True)
            first = keeper(table, bounds)
            self.assertEqual(rows[0][1], first and oracle.depth(first))


class AreFloors(Case):
    def wanted(self, bounds, value, wanted, table=EXAMPLE):
        self.assertEqual(oracle_bounds.floors_ok(table, bounds, value), wanted, value)
        self.assertIs(self.steady(are_floors, table, bounds, value), wanted, value)

    def test_numbers(self):
        """Numbers may be less than the depth, not greater."""
        inner = ((), ((2,),))
        for value, wanted in (
                ([(BOUNDS, 2), (inner, 1)], True), ([(BOUNDS, 1), (inner, 1)], True), ([(BOUNDS, 1)], True), ([(BOUNDS, 2)], False), ([(BOUNDS, 2), (BOUNDS, 1)], False),
                ([(inner, 1), (BOUNDS, 2)], False), ([(BOUNDS, 3), (inner, 2)], False), ([(BOUNDS, 3), (inner, 1)], False), ([(BOUNDS, 2), (inner, 2)], False),
                ([(BOUNDS, None), (inner, None)], False), ([(BOUNDS, None), (inner, 1)], False), ([(BOUNDS, 1), (inner, 2)], False), ([(BOUNDS, 2), (inner, None)], False),
                ([(BOUNDS, 0), (inner, 1)], False), ([(BOUNDS, -1)], False), ([(BOUNDS, True)], False), ([(BOUNDS, 2), (inner, True)], False), ([(BOUNDS, False)], False),
                ([(BOUNDS, "1")], False), ([(BOUNDS, 10 ** 30)], False), ([[BOUNDS, 1]], False), (((BOUNDS, 1),), False), ([(BOUNDS, 1, 1)], False), ([(BOUNDS,)], False),
                ([], False), ([(BOUNDS, 1), None], False), ([(BOUNDS, 1), (NONE, 1)], True), ([(BOUNDS, 1), (NONE, 2)], False), ([(BOUNDS, 1), (((), ()), None)], False)):
            self.wanted(BOUNDS, value, wanted)

    def test_barren_bounds(self):
        """None shows that there is no keeper; any number is right then, where None stands for what it leads to."""
        inner = oracle_bounds.family(EXAMPLE, POOR)
        rows = [(POOR, None)] + [(one, None) for one in inner if one != POOR]
        self.wanted(POOR, rows, oracle_bounds.floors_ok(EXAMPLE, POOR, rows))
        self.wanted(POOR, [(POOR, None)], True)
        self.wanted(POOR, [(POOR, 7)], True)
        self.wanted(POOR, [(POOR, 10 ** 30)], True)
        loop = (((1,), (3,)), ())
        table = bounded.APART
        rows = floors_of(table, loop)
        self.wanted(loop, rows, True, table)
        self.wanted(loop, [(one, 5) for one, _ in rows], True, table)
        self.wanted(loop, [(loop, 7)] + [(one, 5) for one, _ in rows[1:]], False, table)
        self.wanted(loop, [(one, None) for one, _ in rows[:-1]], False, table)
        self.wanted(loop, [(loop, 9)] + rows[1:], True, table)

    def test_two_rows_with_the_same_bounds(self):
        """Each row is looked at, and any of them serves others."""
        inner = ((), ((2,),))
        self.wanted(BOUNDS, [(BOUNDS, 1), (BOUNDS, 2), (inner, 1)], True)
        self.wanted(BOUNDS, [(BOUNDS, 1), (BOUNDS, 3), (inner, 1)], False)
        table = bounded.chained("+")
        deep = (((1,), (3,)), ())
        self.wanted(deep, [(deep, 3), ((((2,), (4,)), ()), 1), ((((2,), (4,)), ()), 2), ((((1,),), ()), 1)], True, table)
        self.wanted(deep, [(deep, 3), ((((2,), (4,)), ()), 2), ((((2,), (4,)), ()), 1), ((((1,),), ()), 1)], True, table)
        self.wanted(deep, [(deep, 3), ((((2,), (4,)), ()), 1), ((((1,),), ()), 1)], False, table)

    def test_a_table_without_classes(self):
        self.wanted(NONE, [(NONE, None)], True, ())
        self.wanted(NONE, [(NONE, 6)], True, ())
        self.wanted(NONE, [], False, ())

    def test_other_numbers(self):
        """Each number of the floors one greater, one less, or None; rows left out, or exchanged."""
        seen = {True: 0, False: 0}
        for table, bounds in bounded.cases(8, 326):
            rows = floors_of(table, bounds)
            changed = [rows[1:] + rows[:1], rows[::-1]]
            for at, (one, number) in enumerate(rows):
                changed.append(rows[:at] + rows[at + 1:])
                for other in (None, 1, True, (number or 0) + 1, (number or 2) - 1):
                    changed.append(rows[:at] + [(one, other)] + rows[at + 1:])
            for value in changed:
                wanted = oracle_bounds.floors_ok(table, bounds, value)
                self.assertIs(are_floors(table, bounds, value), wanted, (table, bounds, value))
                if wanted:
                    first = oracle_bounds.depths(table, bounds)[bounds]
                    self.assertTrue(first is None or (value[0][1] is not None and value[0][1] <= first))
                seen[wanted] += 1
        self.assertGreater(min(seen.values()), 300, seen)

    def test_changed_floors(self):
        rng = random.Random(327)
        for table, bounds in bounded.cases(8, 328):
            rows = floors_of(table, bounds)
            for _ in range(6):
                value = drawn.twisted(rng, rows, drawn.SPARE + [NONE, bounds])
                self.assertIs(self.steady(are_floors, table, bounds, value), oracle_bounds.floors_ok(table, bounds, value), (table, bounds, value))

    def test_any_values(self):
        for value in drawn.ODD:
            for one in (value, [value], [(value, 1)], [(NONE, value)], [(NONE, 1), value], [(NONE, 1), (value, None)]):
                self.assertIs(are_floors(EXAMPLE, NONE, one), oracle_bounds.floors_ok(EXAMPLE, NONE, one), one)


if __name__ == "__main__":
    unittest.main()
