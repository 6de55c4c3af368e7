"""kindsunder.extremes: covers, outside, are_covers, bottom_of, top_of, needless, lean (points 3, 27, 32 and 33)."""

import random
import unittest

from kindsunder.errors import InvalidTable, NotTame, Unsound
from kindsunder.extremes import are_covers, bottom_of, covers, lean, needless, outside, top_of
from kindsunder.keepers import keeper
from kindsunder.wrongs import InvalidBounds
from tests import bounded, drawn, oracle_bounds, samples
from tests.base import Case

EXAMPLE = samples.EXAMPLE
NONE = ((), ())


def pairs(many, seed):
    """Tuples (table, bounds, other)."""
    rng = random.Random(seed)
    found = []
    for table in bounded.TABLES:
        some = bounded.bounds_of(table, many, seed)
        for bounds in some:
            found.append((table, bounds, rng.choice(some)))
            # Other bounds with fewer types on a side, that are near, and with types of keepers.
            found.append((table, bounds, (bounds[0][1:], bounds[1])))
            closed = oracle_bounds.first_keeper(table, bounds)
            if closed is not None:
                found.append((table, bounds, rng.choice((((closed,), ()), ((), (closed,)), ((closed,), (closed,))))))
    return found


class Covers(Case):
    def test_example(self):
        self.same([bottom_of(EXAMPLE, (((2,), (3,)), ())), top_of(EXAMPLE, ((), ((3,),))), bottom_of(EXAMPLE, ((), ((0, (2,)),)))], [(2,), (3,), None])
        self.same([outside(EXAMPLE, (((3,),), ()), (((2,),), ())), needless(EXAMPLE, (((2,), (3,)), ())), lean(EXAMPLE, (((2,), (3,)), ()))],
                  [(3,), [("lower", (3,))], (((2,),), ())])

    def test_pairs(self):
        """Exactly one of both is None; what each of them returns is right."""
        seen = {True: 0, False: 0}
        for table, bounds, other in pairs(9, 351):
            found, closed = self.steady(covers, table, bounds, other), self.steady(outside, table, bounds, other)
            self.assertEqual(found is None, closed is not None, (table, bounds, other))
            self.assertEqual(found is not None, oracle_bounds.is_inside(table, bounds, other))
            if found is None:
                self.assertTrue(oracle_bounds.keeps(table, bounds, closed), (table, bounds, other, closed))
                self.assertFalse(oracle_bounds.keeps(table, other, closed), (table, bounds, other, closed))
            else:
                self.assertTrue(oracle_bounds.covers_ok(table, bounds, other, found), (table, bounds, other, found))
                self.assertIs(self.steady(are_covers, table, bounds, other, found), True)
            seen[found is None] += 1
        self.assertGreater(min(seen.values()), 150, seen)

    def test_against_all_types_of_small_depth(self):
        for table, bounds, other in pairs(6, 352):
            some = oracle_bounds.keepers(table, bounds, 3, 100)
            if not all([oracle_bounds.keeps(table, other, one) for one in some]):
                self.assertIsNone(covers(table, bounds, other))
            self.assertTrue(covers(table, bounds, NONE) is not None and covers(table, bounds, bounds) is not None)

    def test_barren_bounds_have_covers_for_all(self):
        poor = (((0, (2,)), (2,)), ())
        self.assertIsNone(outside(EXAMPLE, poor, (((2,),), ((0, (3,)),))))
        self.assertIs(are_covers(EXAMPLE, poor, NONE, ([], [])), True)
        table = bounded.APART
        loop = (((1,), (3,)), ())
        self.assertIsNone(outside(table, loop, ((), ((2,),))))
        self.assertTrue(oracle_bounds.covers_ok(table, loop, ((), ((2,),)), covers(table, loop, ((), ((2,),)))))

    def test_outside_that_is_deep(self):
        """The keeper that is outside may have to be deeper than all types of the bounds."""
        table = bounded.chained("+")
        deep = (0, (0, (0, (1,))))
        self.assertIsNone(outside(table, (((1,), (3,)), ()), ((deep[1],), ())))
        found = outside(table, ((), (deep,)), ((), (deep[1],)))
        self.assertTrue(oracle_bounds.keeps(table, ((), (deep,)), found) and not oracle_bounds.keeps(table, ((), (deep[1],)), found))

    def test_errors(self):
        for function, more in ((covers, []), (outside, []), (are_covers, [None])):
            self.refuses_tables(function, NONE, NONE, *more)
            self.needs_sound(function, NONE, NONE, *more)
            self.needs_tame(function, NONE, NONE, *more)
            self.refuses_bounds(function, [EXAMPLE, NONE, NONE] + more, 1)
            self.refuses_bounds(function, [EXAMPLE, NONE, NONE] + more, 2)
            self.fails_in_order(function, [EXAMPLE, NONE, NONE] + more, [
                (InvalidTable, 0, 5), (Unsound, 0, samples.FAULTY_WILD), (NotTame, 0, samples.WILD), (InvalidBounds, 1, ""), (InvalidBounds, 2, "")])


class AreCovers(Case):
    def wanted(self, table, bounds, other, value, wanted):
        self.assertEqual(oracle_bounds.covers_ok(table, bounds, other, value), wanted, value)
        self.assertIs(self.steady(are_covers, table, bounds, other, value), wanted, value)

    def test_by_hand(self):
        one, two = (((2,),), ()), (((3,),), ())
        row = (one, "lower", (3,))
        poor = (((0, (2,)), (2,)), ())
        for value, wanted in (
                (([row], []), True), (([row, row], []), True), (([row], [poor]), True), (([row], [poor, poor]), True), (([row], [one]), False), (([row], [NONE]), False),
                (([], []), False), (([], [one]), False), (((row,), []), False), (([row], ()), False), ([[row], []], False), (([row], [], []), False), (([row],), False),
                (([list(row)], []), False), (([(one, "upper", (3,))], []), False), (([(one, "lower", (2,))], []), False), (([row, (one, "lower", (2,))], []), True),
                (([row, (two, "lower", (3,))], []), True), (([row, (two, "lower", (2,))], []), False), (([row, (one, "Lower", (3,))], []), False), (([row, None], []), False),
                (([row, (one, "lower", "a")], []), False), (([row, (one, "lower", (0, "a"))], []), False), (([row, ((), "lower", (3,))], []), False), (([row, (one, 0, (3,))], []), False),
                (([row + ((),)], []), False), (([row[:2]], []), False), (([row], [None]), False), (([row], None), False), (None, False), (([row], [((), ())]), False)):
            self.wanted(EXAMPLE, one, two, value, wanted)
        self.wanted(EXAMPLE, two, one, ([(two, "lower", (2,))], []), False)
        self.wanted(EXAMPLE, NONE, NONE, ([], []), True)
        self.wanted(EXAMPLE, NONE, NONE, ([], [poor]), True)
        self.wanted(EXAMPLE, NONE, NONE, ([], [NONE]), False)
        self.wanted((), NONE, NONE, ([], [NONE]), True)

    def test_sides(self):
        """Only "lower" and "upper" are sides, even where the row would be right on one of them."""
        for side, bounds, other in (("lower", (((2,),), ()), (((3,),), ())), ("upper", ((), ((2,),)), ((), ((2,),)))):
            row = (bounds, side, other[0][0] if other[0] else other[1][0])
            self.wanted(EXAMPLE, bounds, other, ([row], []), True)
            for one in ("Lower", "Upper", "", " ", "low", "lowerupper", 0, 1, True, None, (side,), [side], "+"):
                self.wanted(EXAMPLE, bounds, other, ([row, (bounds, one, row[2])], []), False)
                self.wanted(EXAMPLE, bounds, NONE, ([(bounds, one, row[2])], []), False)

    def test_rows_that_rest_on_others(self):
        """A row for each type of the split, with the bounds and the side that belong to it."""
        table = ((("-",), (), ()), ((), (), ()), ((), ((1,),), ()))
        bounds, other = (((0, (2,)),), ()), (((0, (1,)),), ())
        inner = ((), ((2,),))
        self.wanted(table, bounds, other, ([(bounds, "lower", (0, (1,))), (inner, "upper", (1,))], []), True)
        for row in ((inner, "lower", (1,)), (NONE, "upper", (1,)), (((), ((1,),)), "upper", (1,)), (inner, "upper", (2,)), (bounds, "lower", (0, (1,)))):
            self.wanted(table, bounds, other, ([(bounds, "lower", (0, (1,))), row], []), False)

    def test_rows_and_barren_lists_changed_one_at_a_time(self):
        seen = {True: 0, False: 0}
        for table, bounds, other in pairs(5, 353):
            found = covers(table, bounds, other)
            if found is None:
                continue
            rows, poor = found
            values = [(rows[::-1], poor), (rows, poor[::-1]), (rows + rows, poor + poor), (rows, poor + [bounds]), (rows, poor + [other])]
            values += [(rows[:at] + rows[at + 1:], poor) for at in range(len(rows))]
            values += [(rows, poor[:at] + poor[at + 1:]) for at in range(len(poor))]
            for at, row in enumerate(rows):
                for one in ((row[0], "lower", row[2]), (row[0], "upper", row[2]), (other,) + row[1:], (NONE,) + row[1:], row[:2] + ((0,),)):
                    values += [(rows[:at] + [one] + rows[at + 1:], poor), (rows + [one], poor)]
            for value in values:
                wanted = oracle_bounds.covers_ok(table, bounds, other, value)
                self.assertIs(are_covers(table, bounds, other, value), wanted, (table, bounds, other, value))
                seen[wanted] += 1
        self.assertGreater(min(seen.values()), 300, seen)

    def test_changed_covers(self):
        rng = random.Random(354)
        seen = {True: 0, False: 0}
        for table, bounds, other in pairs(6, 355):
            found = covers(table, bounds, other)
            if found is None:
                found = ([(bounds,) + one for one in oracle_bounds.on_sides(other)], [])
            spare = drawn.SPARE + bounded.pool_of(table, 4) + [NONE, bounds, other, "lower", "upper"]
            for _ in range(4):
                value = drawn.twisted(rng, found, spare)
                wanted = oracle_bounds.covers_ok(table, bounds, other, value)
                self.assertIs(self.steady(are_covers, table, bounds, other, value), wanted, (table, bounds, other, value))
                seen[wanted] += 1
        self.assertGreater(min(seen.values()), 100, seen)

    def test_any_values(self):
        row = ((((2,),), ()), "lower", (3,))
        for value in drawn.ODD:
            for one in (value, (value, []), ([], value), ([value], []), ([], [value]), ([row, value], []), ([(value,) + row[1:]], []), ([row[:1] + (value,) + row[2:]], []), ([row[:2] + (value,)], [])):
                self.assertIs(are_covers(EXAMPLE, NONE, NONE, one), oracle_bounds.covers_ok(EXAMPLE, NONE, NONE, one), one)


class Ends(Case):
    def test_by_hand(self):
        table = ((("+", "-"), (), ()), ((), (), ()), ((), ((1,),), ()), ((), ((2,),), ()))
        self.same(bottom_of(table, (((0, (3,), (1,)),), ())), (0, (3,), (1,)))
        self.same(top_of(table, ((), ((0, (1,), (3,)),))), (0, (1,), (3,)))
        self.same([bottom_of(table, ((), ((1,),))), top_of(table, (((3,),), ()))], [(3,), (1,)])
        self.same([bottom_of(table[:3] + (((), ((1,),), ()),), ((), ((1,),))), top_of(table, NONE)], [None, None])
        self.same([bottom_of((), NONE), top_of((), NONE)], [None, None])

    def test_equal_and_any_arguments(self):
        """For "=" the types have to be alike, for "*" any one does."""
        equal, free = ((("=",), (), ()), ((), (), ()), ((), ((1,),), ())), ((("*",), (), ()), ((), (), ()), ((), ((1,),), ()))
        self.same([bottom_of(equal, (((0, (2,)),), ())), top_of(equal, ((), ((0, (2,)),)))], [(0, (2,))] * 2)
        for function in (bottom_of, top_of):
            for bounds in ((((0, (2,)),), ()), ((), ((0, (1,)),))):
                found = function(free, bounds)
                self.assertEqual((found[0], oracle_bounds.keeps(free, bounds, found)), (0, True))
        # Two types that are alike, but not equal, stand in a parameter with "=".
        both = ((("=",), (), ()), (("*",), (), ()), ((), (), ()), ((), ((0, (1, (2,))),), ()))
        self.assertTrue(oracle_bounds.end_ok(both, (((3,),), ((0, (1, (3,))),)), "lower", bottom_of(both, (((3,),), ((0, (1, (3,))),)))))
        self.assertTrue(oracle_bounds.end_ok(both, (((0, (1, (2,))),), ()), "lower", bottom_of(both, (((0, (1, (2,))),), ()))))

    def test_bounds_that_come_round_have_no_end(self):
        table = ((("+",), (), ()), ((), ((0, (1,)),), ()))
        self.same([bottom_of(table, NONE), top_of(table, NONE), top_of(table, (((1,),), ()))], [(1,), None, None])
        self.same([bottom_of(table, (((1,),), ())), bottom_of(table, ((), ((0, (0, (1,))),)))], [(1,), (1,)])
        turned = ((("-",), (), ()), ((), (), ()))
        self.same([bottom_of(turned, (((0, (1,)),), ())), top_of(turned, (((0, (1,)),), ()))], [(0, (1,)), (0, (1,))])

    def test_tables(self):
        seen = {}
        for table, bounds in bounded.cases(14, 356):
            for function, side in ((bottom_of, "lower"), (top_of, "upper")):
                found = self.steady(function, table, bounds)
                some = oracle_bounds.keepers(table, bounds, 3, 60)
                ends = [one for one in some if oracle_bounds.end_ok(table, bounds, side, one)]
                if found is None:
                    self.assertEqual(ends, [], (table, bounds, side))
                else:
                    self.assertTrue(oracle_bounds.end_ok(table, bounds, side, found), (table, bounds, side, found))
                    for one in ends:
                        self.assertTrue(oracle_bounds.under(table, one, found) and oracle_bounds.under(table, found, one))
                    for one in some:
                        self.assertTrue(oracle_bounds.under(table, *((found, one) if side == "lower" else (one, found))))
                seen[(side, found is None)] = seen.get((side, found is None), 0) + 1
        self.assertGreater(min(seen.values()), 60, seen)

    def test_two_bottoms_are_alike(self):
        """The first keeper of the bounds between a bottom and itself is a bottom, too."""
        for table, bounds in bounded.cases(6, 357):
            for function, side in ((bottom_of, "lower"), (top_of, "upper")):
                found = function(table, bounds)
                if found is not None:
                    other = keeper(table, ((found,), (found,)))
                    self.assertTrue(oracle_bounds.under(table, found, other) and oracle_bounds.under(table, other, found))
                    if oracle_bounds.keeps(table, bounds, other):
                        self.assertTrue(oracle_bounds.end_ok(table, bounds, side, other))

    def test_errors(self):
        for function in (bottom_of, top_of, needless, lean):
            self.refuses_tables(function, NONE)
            self.needs_sound(function, NONE)
            self.needs_tame(function, NONE)
            self.refuses_bounds(function, [EXAMPLE, NONE], 1)
            self.fails_in_order(function, [EXAMPLE, NONE], [(InvalidTable, 0, 5), (Unsound, 0, samples.FAULTY_WILD), (NotTame, 0, samples.WILD), (InvalidBounds, 1, "")])


class Lean(Case):
    def test_by_hand(self):
        table = ((), (), ()), ((), ((0,),), ()), ((), ((1,),), ())
        every = ((0,), (1,), (2,))
        self.same(needless(table, (every, ())), [("lower", (1,)), ("lower", (2,))])
        self.same(needless(table, ((), every)), [("upper", (0,)), ("upper", (1,))])
        self.same([lean(table, (every, ())), lean(table, ((), every))], [(((0,),), ()), ((), ((2,),))])
        self.same([needless(table, NONE), lean(table, NONE)], [[], NONE])
        self.same(needless(table, (((2,),), ())), [("lower", (2,))])
        self.same(lean(table, (((2,),), ((0,),))), NONE)

    def test_one_of_two_alike_types_stays(self):
        """Each of both is needless, but not both of them at once."""
        table = ((("*",), (), ()), ((), (), ()))
        bounds = (((0, (0, (1,))), (0, (1,))), ())
        self.same(needless(table, bounds), [("lower", (0, (0, (1,)))), ("lower", (0, (1,)))])
        self.assertIn(lean(table, bounds), [(((0, (0, (1,))),), ()), (((0, (1,)),), ())])
        self.same(needless(table, (((1,),), ((1,),))), [("lower", (1,)), ("upper", (1,))])
        self.assertEqual(len(sum(lean(table, (((1,),), ((1,),))), ())), 1)

    def test_tables(self):
        seen = {True: 0, False: 0}
        for table, bounds in bounded.cases(10, 358) + bounded.cases(6, 359, 3):
            found = self.steady(needless, table, bounds)
            self.same(found, oracle_bounds.needless(table, bounds), (table, bounds))
            kept = self.steady(lean, table, bounds)
            self.assertTrue(oracle_bounds.bounds_ok(table, kept))
            self.assertEqual(oracle_bounds.needless(table, kept), [], (table, bounds, kept))
            self.assertTrue(set(kept[0]) <= set(bounds[0]) and set(kept[1]) <= set(bounds[1]))
            self.assertTrue(oracle_bounds.is_inside(table, kept, bounds) and oracle_bounds.is_inside(table, bounds, kept))
            self.assertEqual(kept == bounds, found == [])
            for one in oracle_bounds.closed_types(table, 3, 40):
                self.assertEqual(oracle_bounds.keeps(table, bounds, one), oracle_bounds.keeps(table, kept, one))
            seen[found == []] += 1
        self.assertGreater(min(seen.values()), 100, seen)


if __name__ == "__main__":
    unittest.main()
