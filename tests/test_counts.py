"""kindsunder.counts: count, total, pump, is_pump, deep_keeper (points 3, 27 and 30)."""

import random
import unittest

from kindsunder.counts import count, deep_keeper, is_pump, pump, total
from kindsunder.errors import InvalidNumber, InvalidTable, NotTame, Unsound
from kindsunder.wrongs import InvalidBounds
from tests import bounded, drawn, oracle, oracle_bounds, samples
from tests.base import Case

EXAMPLE = samples.EXAMPLE
NONE = ((), ())
BOUNDS = ((), ((0, (2,)),))


class Count(Case):
    def test_example(self):
        self.same([count(EXAMPLE, BOUNDS, 2), total(EXAMPLE, BOUNDS), total(EXAMPLE, NONE), is_pump(EXAMPLE, NONE, ([(NONE, 0, 0, ())], (2,)))], [4, 4, None, True])

    def test_by_hand(self):
        self.same([count(EXAMPLE, NONE, number) for number in range(9)], [0, 2, 6, 14, 30, 62, 126, 254, 510])
        self.same([count(EXAMPLE, BOUNDS, number) for number in range(9)], [0, 0, 4, 4, 4, 4, 4, 4, 4])
        self.same([count(bounded.TREES[:2], NONE, number) for number in range(5)], [0, 1, 2, 5, 26])
        self.same([count((), NONE, number) for number in range(9)], [0] * 9)

    def test_against_all_types(self):
        seen = 0
        for table, bounds in bounded.cases(12, 331):
            for number in range(5):
                some = oracle_bounds.all_types(table, number, 2000)
                if some is not None:
                    wanted = len([one for one in some if oracle_bounds.keeps(table, bounds, one)])
                    self.same(count(table, bounds, number), wanted, (table, bounds, number))
                    seen += wanted > 1
        self.assertGreater(seen, 200)

    def test_tables(self):
        for table, bounds in bounded.cases(10, 332):
            for number in range(9):
                self.same(self.steady(count, table, bounds, number), oracle_bounds.count(table, bounds, number), (table, bounds, number))

    def test_errors(self):
        for function, most in ((count, 8), (deep_keeper, 30)):
            self.refuses_tables(function, NONE, 0)
            self.needs_sound(function, NONE, 0)
            self.needs_tame(function, NONE, 0)
            self.refuses_bounds(function, [EXAMPLE, NONE, 1], 1)
            self.refuses_numbers(function, [EXAMPLE, NONE, 1], 2, most)
            self.refuses_numbers(function, [EXAMPLE, (((0, (2,)), (2,)), ()), 1], 2, most)
            self.fails_in_order(function, [EXAMPLE, NONE, 1], [
                (InvalidTable, 0, 5), (Unsound, 0, samples.FAULTY_WILD), (NotTame, 0, samples.WILD), (InvalidBounds, 1, ""), (InvalidNumber, 2, most + 1)])


class Total(Case):
    def test_by_hand(self):
        for table, bounds, wanted in (
                (EXAMPLE, (((3,),), ()), 2), (EXAMPLE, ((), ((3,),)), 1), (EXAMPLE, ((), ((0, (0, (2,))),)), 8), (EXAMPLE, ((), ((0, (2,)), (2,))), 0),
                ((), NONE, 0), (((("+",), (), ()),), NONE, 0), (((("+",), (), ()), ((), ((0, (1,)),), ())), NONE, None), ((((), (), ()),), NONE, 1),
                (bounded.APART, (((1,), (3,)), ()), 0)):
            self.same(total(table, bounds), wanted, (table, bounds))

    def test_what_is_beside_barren_bounds_does_not_count(self):
        """The first parameter takes all types, the second one none: no keeper, and no pump, comes from this class."""
        table = ((("*", "+"), (), ()), ((), (), ()), ((), (), ()), (("*",), (), ()))
        bounds = (((0, (1,), (1,)), (0, (1,), (2,))), ())
        self.same([total(table, bounds), pump(table, bounds), deep_keeper(table, bounds, 0)], [0, None, None])
        mixed = table[:2] + (((), ((1,),), ()), (("*",), (), ()), ((), ((0, (1,), (1,)), (1,)), ()))
        for bounds in ((((4,),), ((1,),)), (((4,), (0, (3, (1,)), (2,))), ()), (((2,), (4,)), ())):
            bounds = tuple([tuple(sorted(side)) for side in bounds])
            self.assertEqual(total(mixed, bounds) is None, oracle_bounds.has_pump(mixed, bounds))

    def test_tables(self):
        seen = {True: 0, False: 0}
        for table, bounds in bounded.cases(14, 333):
            found, way = self.steady(total, table, bounds), self.steady(pump, table, bounds)
            self.assertEqual(found is None, way is not None, (table, bounds))
            self.assertEqual(way is not None, oracle_bounds.has_pump(table, bounds), (table, bounds))
            many = len(oracle_bounds.family(table, bounds))
            if way is None:
                self.same(found, oracle_bounds.count(table, bounds, many), (table, bounds))
                self.same(found, oracle_bounds.count(table, bounds, many * 2 + 1), (table, bounds))
            else:
                self.assertTrue(oracle_bounds.pump_ok(table, bounds, way), (table, bounds, way))
                self.assertIs(self.steady(is_pump, table, bounds, way), True)
            seen[way is None] += found != 0
        self.assertGreater(min(seen.values()), 60, seen)

    def test_errors(self):
        for function, more in ((total, []), (pump, []), (is_pump, [None])):
            self.refuses_tables(function, NONE, *more)
            self.needs_sound(function, NONE, *more)
            self.needs_tame(function, NONE, *more)
            self.refuses_bounds(function, [EXAMPLE, NONE] + more, 1)
            self.fails_in_order(function, [EXAMPLE, NONE] + more, [
                (InvalidTable, 0, 5), (Unsound, 0, samples.FAULTY_WILD), (NotTame, 0, samples.WILD), (InvalidBounds, 1, "")])


class DeepKeeper(Case):
    def test_tables(self):
        seen = {True: 0, False: 0}
        for table, bounds in bounded.cases(8, 334):
            family = len(oracle_bounds.family(table, bounds))
            for number in list(range(7)) + [13, 29, 30]:
                found = self.steady(deep_keeper, table, bounds, number)
                if found is None:
                    self.assertFalse(oracle_bounds.has_pump(table, bounds))
                    self.same(oracle_bounds.count(table, bounds, max(number - 1, 0)), oracle_bounds.count(table, bounds, family + 1), (table, bounds, number))
                else:
                    self.assertTrue(oracle.type_ok(oracle.counts_of(table), found) and not oracle.letters(found))
                    self.assertGreaterEqual(oracle.depth(found), number)
                    self.assertTrue(oracle_bounds.keeps(table, bounds, found), (table, bounds, number, found))
                seen[found is None] += 1
        self.assertGreater(min(seen.values()), 150, seen)

    def test_by_hand(self):
        self.same([deep_keeper(EXAMPLE, BOUNDS, 3), deep_keeper(EXAMPLE, (((3,),), ()), 1) in ((2,), (3,)), deep_keeper((), NONE, 0)], [None, True, None])
        # The deepest one is not the first one of its class, and stands in a later argument.
        table = ((("+", "+"), (), ()), ((), (), ()), ((), ((1,),), ()), ((), ((0, (1,), (2,)),), ()), ((), ((0, (3,), (1,)), (3,))[:1], ()))
        for bounds in (((), ((0, (1,), (0, (1,), (1,))),)), ((), ((0, (0, (1,), (0, (1,), (1,))), (1,)),))):
            family = len(oracle_bounds.family(table, bounds))
            deepest = max([number for number in range(family + 1) if number and oracle_bounds.count(table, bounds, number) > oracle_bounds.count(table, bounds, number - 1)])
            self.assertEqual(oracle.depth(deep_keeper(table, bounds, deepest)), deepest)
            self.assertIsNone(deep_keeper(table, bounds, deepest + 1))


class IsPump(Case):
    def wanted(self, table, bounds, value, wanted):
        self.assertEqual(oracle_bounds.pump_ok(table, bounds, value), wanted, value)
        self.assertIs(self.steady(is_pump, table, bounds, value), wanted, value)

    def test_by_hand(self):
        row = (NONE, 0, 0, ())
        for value, wanted in (
                (([row], (2,)), True), (([row], (1, (3,))), True), (([row, (NONE, 1, 0, ())], (2,)), True), (([row] * 3, (2,)), True), (([], (2,)), False), (((row,), (2,)), False),
                ([[row], (2,)], False), (([row], "a"), False), (([row], (0, "a")), False), (([row], (2,), ()), False), (([row],), False), (([list(row)], (2,)), False),
                (([(NONE, 2, 0, ())], (2,)), False), (([(NONE, 4, 0, ())], (2,)), False), (([(NONE, -1, 0, ())], (2,)), False), (([(NONE, False, 0, ())], (2,)), False),
                (([(NONE, 0, 1, ())], (2,)), False), (([(NONE, 0, -1, ())], (2,)), False), (([(NONE, 0, False, ())], (2,)), False), (([(NONE, 0, None, ())], (2,)), False),
                (([(NONE, 0, 0, ((2,),))], (2,)), False), (([(NONE, 0, 0, [])], (2,)), False), (([(NONE, 0, 0)], (2,)), False), (([(((), ((2,),)), 0, 0, ())], (2,)), False),
                (([(BOUNDS, 0, 0, ())], (2,)), False), (([row, (BOUNDS, 0, 0, ())], (2,)), False), (None, False), (([None], (2,)), False), (([row, None], (2,)), False)):
            self.wanted(EXAMPLE, NONE, value, wanted)
        self.wanted(EXAMPLE, BOUNDS, ([(BOUNDS, 0, 0, ())], (2,)), False)
        self.wanted(EXAMPLE, BOUNDS, ([(BOUNDS, 0, 0, ())], (0, (2,))), False)

    def test_other_arguments(self):
        table = bounded.PAIRS
        bounds = ((), ((0, (1,), (2,)),))
        for row in ((NONE, 0, 0, ((1,),)), (NONE, 0, 1, ((1,),)), (NONE, 4, 0, ())):
            self.wanted(table, NONE, ([row], (1,)), True)
        for row in ((NONE, 0, 0, ()), (NONE, 0, 0, ((1,), (1,))), (NONE, 0, 0, ("a",)), (NONE, 0, 0, ((7,),)), (NONE, 0, 0, ([1],)), (NONE, 0, 2, ((1,),)), (NONE, 1, 0, ())):
            self.wanted(table, NONE, ([row], (1,)), False)
        for others, wanted in ((((2,),), False), (((1,),), False)):
            self.wanted(table, bounds, ([(bounds, 0, 0, others)], (2,)), wanted)

    def test_where_the_last_row_leads(self):
        """It may lead to any of the rows, and the closed type keeps the bounds of that one."""
        table = (BARE_PLUS, ((), (), ()), ((), ((1,),), ()), ((), ((0, (3,)),), ()))
        start = (((3,),), ())
        for value, wanted in (
                (([(start, 0, 0, ())], (3,)), True), (([(start, 0, 0, ())], (0, (3,))), True), (([(start, 0, 0, ())], (1,)), False), (([(start, 0, 0, ())] * 2, (0, (0, (3,)))), True),
                (([(NONE, 0, 0, ())], (3,)), False), (([(start, 0, 0, ()), (NONE, 0, 0, ())], (3,)), False)):
            self.wanted(table, start, value, wanted)
        # The sign "*" leads away from the bounds to all types, and these lead to themselves.
        loose = ((("*",), (), ()), ((), (), ()))
        bounds = ((), ((0, (1,)),))
        self.wanted(loose, bounds, ([(bounds, 0, 0, ()), (NONE, 0, 0, ())], (1,)), True)
        self.wanted(loose, bounds, ([(bounds, 0, 0, ())], (1,)), False)
        self.wanted(loose, bounds, ([(bounds, 0, 0, ()), (bounds, 0, 0, ())], (1,)), False)

    def test_changed_pumps(self):
        rng = random.Random(335)
        seen = {True: 0, False: 0}
        for table, bounds in bounded.cases(10, 336):
            way = pump(table, bounds) or ([(bounds, 0, 0, ())], (1,))
            spare = drawn.SPARE + bounded.pool_of(table) + [NONE, bounds]
            for _ in range(12):
                value = drawn.twisted(rng, way, spare)
                wanted = oracle_bounds.pump_ok(table, bounds, value)
                self.assertIs(self.steady(is_pump, table, bounds, value), wanted, (table, bounds, value))
                seen[wanted] += 1
        self.assertGreater(min(seen.values()), 60, seen)

    def test_rows_and_entries_changed_one_at_a_time(self):
        seen = {True: 0, False: 0}
        for table, bounds in bounded.cases(5, 337):
            way = pump(table, bounds)
            if way is None:
                continue
            rows, closed = way
            values = [(rows[::-1], closed), (rows + rows, closed), (rows[1:], closed), (rows[:-1], closed), (rows + rows[-1:], closed)]
            values += [(rows, one) for one in bounded.pool_of(table, 6)]
            for at, row in enumerate(rows):
                other = [(row[0], number, row[2], row[3]) for number in range(-1, len(table) + 1)] + [(row[0], row[1], number, row[3]) for number in (-1, 0, 1, 2, True, False)]
                other += [row[:3] + ((one,) * len(row[3]),) for one in bounded.pool_of(table, 6)] + [(one,) + row[1:] for one in oracle_bounds.family(table, bounds)]
                values += [(rows[:at] + [one] + rows[at + 1:], closed) for one in other + [row[:3] + (row[3] + ((1,),),)]]
            for value in values:
                wanted = oracle_bounds.pump_ok(table, bounds, value)
                self.assertIs(is_pump(table, bounds, value), wanted, (table, bounds, value))
                seen[wanted] += 1
        self.assertGreater(min(seen.values()), 150, seen)

    def test_any_values(self):
        row = (NONE, 0, 0, ())
        for value in drawn.ODD:
            for one in (value, (value, (2,)), ([value], (2,)), ([row], value), ([row, value], (2,)), ([(value,) + row[1:]], (2,)), ([row[:3] + (value,)], (2,)), ([(NONE, value, 0, ())], (2,)), ([(NONE, 0, value, ())], (2,))):
                self.assertIs(is_pump(EXAMPLE, NONE, one), oracle_bounds.pump_ok(EXAMPLE, NONE, one), one)


BARE_PLUS = (("+",), (), ())

if __name__ == "__main__":
    unittest.main()
