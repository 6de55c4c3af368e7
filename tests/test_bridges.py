"""kindsunder.bridges: halves, crossings, bridges, gaps, nested calls (points 3, 27, 35, 36 and 37)."""

import random
import unittest

from kindsunder.bridges import bridge, gap, is_crossing, is_gap, is_half, is_nested, needed_crossings, nested, nested_halves
from kindsunder.errors import InvalidTable, NotTame, Unsound
from kindsunder.wrongs import InvalidCall, InvalidCrossing, InvalidHalf
from tests import bounded, drawn, oracle, oracle_bounds, oracle_calls, samples
from tests.base import Case

EXAMPLE = samples.EXAMPLE
NONE = ((), ())
HALF = ("a", (NONE,))
CLOSED = ((2,), ())
CROSSING = (HALF, CLOSED, "under")
INNER, OUTER = (1, ("a",), (0, "a")), (1, ((0, "a"),), "a")
NESTED = (INNER, ((2,),), OUTER, 0, (), (2,))
BAD_HALVES = [
    None, (), [], "a", 0, ("a",), ("a", ()), ("a", (NONE, NONE)), ["a", (NONE,)], ("a", [NONE]), ("a", NONE), ("a", (None,)), ("c", (NONE,)), ("x", ()), ((0, "c"), (NONE,)), ((2,), (NONE,)),
    ((0, "a"), ()), ((0, "a"), (((), ((3,), (2,))),)), ((0, "a"), ((((2,), (2,)), ()),)), ((0, "a"), (NONE,), ()), ((4,), ()), ((0,), ()), ((True, "a"), (NONE,)), ([2], ()), ((0, ["a"]), (NONE,)),
    ("a", (((), ("a",)),)), ("a", (((True,), ()),)), ("A", (NONE,)), (("a",), (NONE,)), ("a", (((),),))]
PLUS, MINUS, EQUAL, STAR = [((one,), (), ()) for one in "+-=*"]
BARE, LOW = ((), (), ()), ((), ((1,),), ())


class IsHalf(Case):
    def wanted(self, value, wanted, table=EXAMPLE):
        self.assertEqual(oracle_calls.half_ok(table, value), wanted, value)
        self.assertIs(self.steady(is_half, table, value), wanted, value)

    def test_by_hand(self):
        for value in (HALF, CLOSED, ("b", (NONE,)), ((0, "b"), ((((2,), (3,)), ((0, (2,)),)),)), ((0, (1, "a")), (NONE,)), ((0, (2,)), ())):
            self.wanted(value, True)
        for value in BAD_HALVES:
            self.wanted(value, False)
        table = bounded.TREES
        for shape, many in (((0, "a", "b"), 2), ((0, "b", "a"), 2), ((0, "b", (1,)), 1)):
            self.wanted((shape, (NONE,) * many), True, table)
            self.wanted((shape, (NONE,) * (many + 1)), False, table)
            self.wanted((shape, (NONE,) * (many - 1)), False, table)
        for shape in ((0, "a", "a"), (0, "b", "b"), (0, (3, "a"), "a"), (0, "a", "c"), (0, "c", "a")):
            for many in (0, 1, 2):
                self.wanted((shape, (NONE,) * many), False, table)

    def test_any_size(self):
        shape = "b"
        for _ in range(100):
            shape = (0, shape)
        self.wanted((shape, (NONE,)), True)
        self.wanted(((0, shape), (((), (oracle.put(shape, ("b", (2,))),)),)), True)
        self.wanted((oracle.put(shape, ("b", "c")), (NONE,)), False)

    def test_changed_halves_and_crossings(self):
        rng = random.Random(371)
        seen = {True: 0, False: 0}
        for table, first, second in bounded.halves(6, 372):
            self.wanted(first, True, table)
            for _ in range(4):
                value = drawn.twisted(rng, first, drawn.SPARE + [NONE])
                self.assertIs(self.steady(is_half, table, value), oracle_calls.half_ok(table, value), (table, value))
                crossing = drawn.twisted(rng, (first, second, rng.choice(("under", "alike"))), drawn.SPARE + ["under", "alike"])
                wanted = oracle_calls.crossing_ok(table, crossing)
                self.assertIs(self.steady(is_crossing, table, crossing), wanted, (table, crossing))
                seen[wanted] += 1
        self.assertGreater(min(seen.values()), 60, seen)

    def test_crossings(self):
        for value, wanted in (
                (CROSSING, True), ((HALF, HALF, "alike"), True), ((HALF, CLOSED, "over"), False), ((HALF, CLOSED), False), (CROSSING + (0,), False), (list(CROSSING), False),
                ((HALF, CLOSED, None), False), ((HALF, CLOSED, ["under"]), False), ((HALF, CLOSED, ""), False)):
            self.assertIs(self.steady(is_crossing, EXAMPLE, value), wanted, value)
        for value in BAD_HALVES + drawn.ODD:
            for one in (value, (value, CLOSED, "under"), (HALF, value, "alike"), (HALF, CLOSED, value)):
                self.assertIs(is_crossing(EXAMPLE, one), oracle_calls.crossing_ok(EXAMPLE, one), one)

    def test_errors(self):
        for function, value in ((is_half, HALF), (is_crossing, CROSSING), (is_nested, NESTED)):
            self.refuses_tables(function, value)
            self.needs_sound(function, value)
            self.needs_tame(function, value)


class NeededCrossings(Case):
    def test_each_sign(self):
        low, high = ("a", ((((1,),), ()),)), ("b", (((), ((1,),)),))
        for sign, wanted in (("+", [(low, high, "under")]), ("-", [(high, low, "under")]), ("=", [(low, high, "alike")]), ("*", [])):
            table = (((sign,), (), ()), BARE)
            first, second = ((0, "a"), low[1]), ((0, "b"), high[1])
            self.same(needed_crossings(table, (first, second, "under")), wanted)
            self.same(needed_crossings(table, (first, second, "alike")), [] if sign == "*" else [(low, high, "alike")])

    def test_class_types(self):
        """The instance above the first shape, with the limits of the variables that stand in each argument."""
        table = ((("+", "-"), (), ()), (("-", "+"), ((0, "b", (3, "a")),), ()), BARE, PLUS)
        one, two, three = (((2,),), ()), ((), ((2,),)), ((), ())
        first, second = ((1, "a", "b"), (one, two)), ((0, "b", (3, (2,))), (three,))
        self.same(needed_crossings(table, (first, second, "under")), [(("b", (two,)), ("b", (three,)), "under"), (((3, (2,)), ()), ((3, "a"), (one,)), "under")])
        self.same([needed_crossings(table, (first, second, "alike")), needed_crossings(table, (second, first, "under"))], [None, None])
        self.same(needed_crossings(table, (first, first, "alike")), [(("a", (one,)), ("a", (one,)), "alike"), (("b", (two,)), ("b", (two,)), "alike")])
        self.same(needed_crossings(table, (((2,), ()), ((2,), ()), "alike")), [])
        self.same(needed_crossings(table, (((2,), ()), ((2,), ()), "under")), [])
        self.same(needed_crossings(table, (((2,), ()), second, "under")), None)

    def test_variables(self):
        """The first shape goes ahead of the second one; each class that is not barred stands for it."""
        bounds = ((), ((0, (2,)),))
        inner = (((), ((2,),)),)
        first = ("b", (bounds,))
        for way in ("under", "alike"):
            self.same(needed_crossings(EXAMPLE, (first, HALF, way)), [(((0, "a"), inner), HALF, way), (((1, "a"), (inner[0],)), HALF, way)])
            self.same(needed_crossings(EXAMPLE, (CLOSED, first, way)), [(CLOSED, ((0, "a"), inner), way), (CLOSED, ((1, "a"), inner), way)])
            self.same(needed_crossings(EXAMPLE, (HALF, CLOSED, way)), [
                (((0, "a"), (NONE,)), CLOSED, way), (((1, "a"), (NONE,)), CLOSED, way), (((2,), ()), CLOSED, way), (((3,), ()), CLOSED, way)])
            self.same(needed_crossings(EXAMPLE, (("a", ((((0, (2,)), (2,)), ()),)), CLOSED, way)), [])
            self.same(needed_crossings((), (HALF, HALF, way)), [])

    def test_halves(self):
        seen = {}
        for table, first, second in bounded.halves(10, 373):
            waiting = [(first, second, "under"), (second, first, "alike")]
            for crossing in waiting[:25]:
                found = self.steady(needed_crossings, table, crossing)
                self.same(found, oracle_calls.needed(table, crossing), (table, crossing))
                kind = (type(crossing[0][0]), type(crossing[1][0]), crossing[2], found is None)
                seen[kind] = seen.get(kind, 0) + 1
                for one in found or []:
                    self.assertTrue(oracle_calls.crossing_ok(table, one))
                    waiting += [one] if len(waiting) < 25 else []
        self.assertEqual(len(seen), 10, seen)
        self.assertGreater(min(seen.values()), 20, seen)

    def test_errors(self):
        self.refuses_tables(needed_crossings, CROSSING)
        self.needs_sound(needed_crossings, CROSSING)
        self.needs_tame(needed_crossings, CROSSING)
        for value in BAD_HALVES + drawn.ODD:
            for one in (value, (value, CLOSED, "under"), (HALF, value, "alike"), (HALF, CLOSED, value)):
                self.fails(InvalidCrossing, needed_crossings, EXAMPLE, one)
        self.fails_in_order(needed_crossings, [EXAMPLE, CROSSING], [(InvalidTable, 0, 5), (Unsound, 0, samples.FAULTY_WILD), (NotTame, 0, samples.WILD), (InvalidCrossing, 1, ())])


class Bridges(Case):
    def test_example(self):
        first, second = ("a", ((((2,),), ()),)), ("a", (((), ((3,),)),))
        third, fourth = ((0, "a"), ((((3,),), ()),)), ("a", (((), ((0, (2,)),)),))
        self.same([bridge(EXAMPLE, first, second), bridge(EXAMPLE, third, fourth) is None, nested(EXAMPLE, NESTED)], [None, False, (((2,),), ((2,),))])

    def test_by_hand(self):
        """The variables of two halves have nothing to do with each other."""
        self.same(bridge(EXAMPLE, HALF, HALF), (((2,),), ((2,),)))
        self.same(bridge(EXAMPLE, CLOSED, ((2,), ())), ((), ()))
        self.same(bridge(EXAMPLE, ((3,), ()), CLOSED), ((), ()))
        self.same(bridge(EXAMPLE, CLOSED, ((3,), ())), None)
        self.same(bridge(EXAMPLE, ((0, "a"), (((), ((3,),)),)), ((0, "b"), ((((2,),), ()),))), (((3,),), ((2,),)))
        self.same(bridge(EXAMPLE, ((1, "a"), (((), ((3,),)),)), ((1, "a"), ((((2,),), ()),))), None)

    def test_order_of_fillings(self):
        """Fillings have the type for "a" first, wherever it stands."""
        table = (("+", "-"), (), ()), BARE, LOW
        low, high = ((), ((2,),)), (((1,),), ())
        first, second = ((0, "b", "a"), (high, low)), ((0, "a", "b"), (NONE, NONE))
        self.assertEqual(bridge(table, first, second)[0], ((1,), (2,)))
        self.assertTrue(oracle_calls.bridge_ok(table, first, second, bridge(table, first, second)))
        self.same(bridge(table, ((0, "b", "a"), (low, high)), ((0, "a", "b"), (high, low))), (((2,), (1,)), ((1,), (2,))))
        self.same(bridge(table, ((0, "a", "b"), (high, low)), ((0, "a", "b"), (low, high))), None)
        self.same(bridge(table, ((0, "b", (2,)), (low,)), ("a", (NONE,)))[0], ((2,),))

    def test_where_a_variable_is_not_compared(self):
        """Any keeper will do there, but there has to be one."""
        table = (STAR, BARE, LOW, (("+",), ((0, "a"),), ()))
        poor = (((0, (1,)), (1,)), ())
        self.same(bridge(table, ((0, "a"), (((), ((2,),)),)), ((0, "b"), ((((1,),), ()),))), (((2,),), ((1,),)))
        for first, second in ((((0, "a"), (poor,)), ((0, "b"), (NONE,))), (((0, "a"), (NONE,)), ((0, "b"), (poor,))), (((3, "b"), (poor,)), ((0, "b"), (NONE,)))):
            self.assertIsNone(bridge(table, first, second))
            self.assertTrue(oracle_calls.gap_ok(table, first, second, gap(table, first, second)))

    def test_halves(self):
        """Exactly one of both is None; a bridge leads from a filling to one above it, a gap is one."""
        seen = {True: 0, False: 0}
        for table, first, second in bounded.halves(24, 374):
            way, rows = self.steady(bridge, table, first, second), self.steady(gap, table, first, second)
            self.assertEqual(way is None, rows is not None, (table, first, second))
            if way is None:
                self.assertTrue(oracle_calls.gap_ok(table, first, second, rows), (table, first, second, rows))
                self.assertIs(is_gap(table, first, second, rows), True)
                self.assertEqual(oracle_calls.small_bridges(table, first, second), [])
            else:
                self.assertTrue(oracle_calls.bridge_ok(table, first, second, way), (table, first, second, way))
            seen[way is None] += 1
        self.assertGreater(min(seen.values()), 200, seen)

    def test_chains(self):
        """Bridges to types that are as deep as the place where two chains meet, and gaps that go round for ever."""
        for table, wanted in ((bounded.chained("+"), True), (bounded.APART, False)):
            first, second = ((1,), ()), ("a", ((((3,),), ()),))
            self.assertEqual(bridge(table, first, second) is not None, wanted)
            self.assertEqual(gap(table, first, second) is None, wanted)
            first, second = ("b", ((((1,),), ()),)), ("a", (((), ((3,),)),))
            self.assertEqual(bridge(table, first, second) is not None, oracle_calls.small_bridges(table, first, second) != [])

    def test_errors(self):
        for function, more in ((bridge, []), (gap, []), (is_gap, [None])):
            self.refuses_tables(function, HALF, HALF, *more)
            self.needs_sound(function, HALF, HALF, *more)
            self.needs_tame(function, HALF, HALF, *more)
            for value in BAD_HALVES + drawn.ODD:
                self.fails(InvalidHalf, function, EXAMPLE, value, HALF, *more)
                self.fails(InvalidHalf, function, EXAMPLE, HALF, value, *more)
            self.fails_in_order(function, [EXAMPLE, HALF, HALF] + more, [
                (InvalidTable, 0, 5), (Unsound, 0, samples.FAULTY_WILD), (NotTame, 0, samples.WILD), (InvalidHalf, 1, ()), (InvalidHalf, 2, ())])


class IsGap(Case):
    def wanted(self, table, first, second, value, wanted):
        self.assertEqual(oracle_calls.gap_ok(table, first, second, value), wanted, value)
        self.assertIs(self.steady(is_gap, table, first, second, value), wanted, value)

    def test_by_hand(self):
        low, high = ((3,), ()), ((2,), ())
        poor = (((0, (2,)), (2,)), ())
        row = (high, low, "under")
        for value, wanted in (
                (([row], []), True), (([row, row], []), True), (([row], [poor]), True), (([row], [NONE]), False), (([row], ()), False), (((row,), []), False), (([], []), False),
                (([(low, high, "under")], []), False), (([(high, low, "alike")], []), False), (([(high, low, "alike"), row], []), False), (([row, (high, low, "alike")], []), True),
                (([row, (high, high, "alike")], []), False), (([row, (low, high, "under")], []), False), (([row], [], []), False), (([row],), False), ([[row], []], False), (([list(row)], []), False),
                (([row, None], []), False), (([row], None), False), (None, False), (([row, (HALF, low, "under")], []), False), (([row, ((0, "a"), (NONE,))], []), False)):
            self.wanted(EXAMPLE, high, low, value, wanted)
        self.wanted(EXAMPLE, low, high, ([(low, high, "under")], []), False)

    def test_one_or_all(self):
        """Of class types one of the crossings that are needed is enough, of a variable it takes all."""
        table = (("+", "+"), (), ()), BARE, LOW
        first, second = ((0, (1,), (2,)), ()), ((0, (2,), (2,)), ())
        start, inner = (first, second, "under"), (((1,), ()), ((2,), ()), "under")
        self.wanted(table, first, second, ([start, inner], []), True)
        self.wanted(table, first, second, ([start, (((2,), ()), ((2,), ()), "under")], []), False)
        self.wanted(table, first, second, ([start], []), False)
        upper = ("a", (((), ((2,),)),))
        start = (((1,), ()), upper, "under")
        found = oracle_calls.needed(table, start)
        self.wanted(table, start[0], upper, ([start] + found, []), True)
        for at in range(len(found)):
            self.wanted(table, start[0], upper, ([start] + found[:at] + found[at + 1:], []), False)
        poor = ("a", (((), ((0, (1,), (1,)), (1,))),))
        start = (((1,), ()), poor, "under")
        self.wanted(table, start[0], poor, ([start], [poor[1][0]]), True)
        self.wanted(table, poor, start[0], ([(poor, start[0], "under")], [poor[1][0]]), True)
        self.wanted(table, start[0], poor, ([start], []), True)

    def test_rows_and_barren_lists_changed_one_at_a_time(self):
        seen = {True: 0, False: 0}
        for table, first, second in bounded.halves(7, 375):
            found = gap(table, first, second)
            if found is None or len(found[0]) > 12:
                continue
            rows, poor = found
            values = [(rows[::-1], poor), (rows, poor[::-1]), (rows, poor + poor), (rows, []), (rows, poor + [NONE])] + [(rows, poor + list(half[1])) for half in (first, second)]
            values += [(rows[:at] + rows[at + 1:], poor) for at in range(len(rows))] + [(rows, poor[:at] + poor[at + 1:]) for at in range(len(poor))]
            for at, row in enumerate(rows):
                for one in ((row[1], row[0], row[2]), (row[0], row[1], "alike"), (row[0], row[1], "under"), (row[0], row[0], row[2]), (HALF,) + row[1:]):
                    values += [(rows[:at] + [one] + rows[at + 1:], poor), (rows + [one], poor)]
            for value in values:
                wanted = oracle_calls.gap_ok(table, first, second, value)
                self.assertIs(is_gap(table, first, second, value), wanted, (table, first, second, value))
                seen[wanted] += 1
        self.assertGreater(min(seen.values()), 300, seen)

    def test_changed_gaps(self):
        rng = random.Random(376)
        seen = {True: 0, False: 0}
        for table, first, second in bounded.halves(8, 377):
            found = gap(table, first, second)
            if found is None:
                found = ([(first, second, "under")] + oracle_calls.needed(table, (first, second, "under")), [])
            for _ in range(4):
                value = drawn.twisted(rng, found, drawn.SPARE + [NONE, first, second, "under", "alike"])
                wanted = oracle_calls.gap_ok(table, first, second, value)
                self.assertIs(self.steady(is_gap, table, first, second, value), wanted, (table, first, second, value))
                seen[wanted] += 1
        self.assertGreater(min(seen.values()), 60, seen)

    def test_any_values(self):
        row = (((2,), ()), ((3,), ()), "under")
        for value in drawn.ODD:
            for one in (value, (value, []), ([row], value), ([value], []), ([row, value], []), ([row], [value]), ([(value,) + row[1:]], []), ([row, (row[0], value, "under")], []), ([row[:2] + (value,)], [])):
                self.assertIs(is_gap(EXAMPLE, row[0], row[1], one), oracle_calls.gap_ok(EXAMPLE, row[0], row[1], one), one)


BAD_NESTED = [
    None, (), NESTED[:5], NESTED + (None,), list(NESTED), (None,) + NESTED[1:], NESTED[:1] + ([(2,)],) + NESTED[2:], NESTED[:1] + ((),) + NESTED[2:], NESTED[:1] + (("a",),) + NESTED[2:],
    NESTED[:2] + (None,) + NESTED[3:], NESTED[:3] + (1, (), None), NESTED[:3] + (-1, (), None), NESTED[:3] + (False, (), None), NESTED[:3] + ("0", (), None), NESTED[:3] + (None, (), None),
    NESTED[:4] + (((2,),), None), NESTED[:4] + ([], None), NESTED[:5] + ("a",), NESTED[:5] + (False,), NESTED[:2] + ((1, (), "a"), 0, (), None), NESTED[:2] + ((1, (), "a"), -1, (), None),
    ((3, ("a",), (0, "a")),) + NESTED[1:], NESTED[:2] + ((1, ((0, "b"),), "a"),) + NESTED[3:]]


class Nested(Case):
    def wanted(self, table, value, wanted):
        self.assertEqual(oracle_calls.nested_ok(table, value), wanted, value)
        self.assertIs(self.steady(is_nested, table, value), wanted, value)

    def test_by_hand(self):
        for value in (NESTED, NESTED[:5] + (None,), ((0, (), (2,)), (), (0, ("a", (2,)), (2,))[:1] + (((2,), (2,)), (2,)), 1, ((2,),), None)):
            self.wanted(EXAMPLE, value, True)
        for value in BAD_NESTED:
            self.wanted(EXAMPLE, value, False)
        table = bounded.TREES
        twice, once = (0, "a", "a"), (0, "b", "a")
        for inner, outer, wanted in ((once, once, True), (twice, once, False), (once, twice, False), ((0, (1,), (1,)), once, True), ((0, (3, "b"), (3, "b")), "a", False)):
            self.wanted(table, ((2, (), inner), (), (2, (outer,), twice), 0, (), None), wanted)
            self.wanted(table, ((2, (twice,), inner), ((1,),), (2, (twice, outer), twice), 1, ((1,),), (1,)), wanted)

    def test_halves_by_hand(self):
        self.same(nested_halves(EXAMPLE, NESTED), (((0, "a"), ((((2,),), ()),)), ((0, "a"), (((), ((2,),)),))))
        self.same(nested_halves(EXAMPLE, NESTED[:5] + ((3,),)), (((0, "a"), ((((2,),), ()),)), ((0, "a"), (((), ((3,),)),))))
        inner, outer = (2, ("b", "a"), (0, "b")), (2, ((0, "b"), "a", "b"), (0, "a"))
        call = (inner, ((2,), (3,)), outer, 1, ((0, (3,)), (2,)), (0, (2,)))
        self.same(nested_halves(EXAMPLE, call), (((0, "b"), ((((2,),), ()),)), ("a", (((), ((2,),)),))))
        self.assertIsNone(nested_halves(EXAMPLE, (((1, ((1, "a"),), "a"), ((2,),)) + NESTED[2:])))
        self.assertIsNone(nested_halves(EXAMPLE, NESTED[:2] + ((1, ((0, "a"),), (2,)), 0, (), (3,))))
        self.same([nested(EXAMPLE, (((1, ((1, "a"),), "a"), ((2,),)) + NESTED[2:])), nested(EXAMPLE, NESTED[:2] + ((1, ((0, "a"),), (2,)), 0, (), (3,)))], [None, None])

    def test_letters_that_do_not_stand_in_the_halves(self):
        """They have the first keepers of their bounds, and there are no choices where one of them has none."""
        inner, outer = (2, ("b",), "a"), (2, ("b", "a"), "b")
        self.same(nested(EXAMPLE, (inner, ((3,),), outer, 0, ((2,),), (2,))), (((2,), (2,)), ((2,), (2,))))
        poor = (2, ("b", "b"), "a")
        self.same(nested(EXAMPLE, (poor, ((2,), (0, (2,))), (1, ("a",), "a"), 0, (), None)), None)
        self.assertIsNotNone(nested_halves(EXAMPLE, (poor, ((2,), (0, (2,))), (1, ("a",), "a"), 0, (), None)))
        self.same(nested(EXAMPLE, ((1, (), "a"), (), (2, ("a", "b", "b"), "a"), 0, ((2,), (0, (2,))), None)), None)

    def test_nested_calls(self):
        seen = {}
        for table, call in bounded.nested_calls(60, 378):
            self.assertIs(is_nested(table, call), True)
            halves, found = self.steady(nested_halves, table, call), self.steady(nested, table, call)
            self.same(halves, oracle_calls.nested_halves(table, call), (table, call))
            if found is not None:
                self.assertTrue(oracle_calls.nested_fits(table, call, found), (table, call, found))
            elif halves is None:
                seen["barred"] = seen.get("barred", 0) + 1
            else:
                poor = any([oracle_bounds.barren(table, one) for part in (oracle_calls.inner_call(call), oracle_calls.outer_without(call)) for one in oracle_calls.opened(table, part)])
                self.assertTrue(poor or gap(table, *halves) is not None, (table, call))
                seen["poor" if poor else "gap"] = seen.get("poor" if poor else "gap", 0) + 1
            seen[found is None] = seen.get(found is None, 0) + 1
        self.assertGreater(min(seen.values()), 10, seen)

    def test_small_choices_one_by_one(self):
        seen = {True: 0, False: 0}
        for table, call in bounded.nested_calls(16, 379):
            some = oracle_bounds.closed_types(table, 2, 12)[:4]
            fit = [(one, two) for one in pairs(some, call[0][0]) for two in pairs(some, call[2][0]) if oracle_calls.nested_fits(table, call, (one, two))]
            if fit:
                self.assertIsNotNone(nested(table, call), (table, call, fit[0]))
            seen[fit == []] += 1
        self.assertGreater(min(seen.values()), 60, seen)

    def test_changed_calls(self):
        rng = random.Random(380)
        seen = {True: 0, False: 0}
        for table, call in bounded.nested_calls(10, 381):
            for _ in range(5):
                value = drawn.twisted(rng, call, drawn.SPARE)
                wanted = oracle_calls.nested_ok(table, value)
                self.assertIs(self.steady(is_nested, table, value), wanted, (table, value))
                seen[wanted] += 1
        self.assertGreater(min(seen.values()), 60, seen)

    def test_any_values(self):
        for value in drawn.ODD:
            for one in [value] + [NESTED[:at] + (value,) + NESTED[at + 1:] for at in range(6)]:
                self.assertIs(is_nested(EXAMPLE, one), oracle_calls.nested_ok(EXAMPLE, one), one)

    def test_errors(self):
        for function in (nested, nested_halves):
            self.refuses_tables(function, NESTED)
            self.needs_sound(function, NESTED)
            self.needs_tame(function, NESTED)
            for value in BAD_NESTED + drawn.ODD:
                self.fails(InvalidCall, function, EXAMPLE, value)
            self.fails_in_order(function, [EXAMPLE, NESTED], [(InvalidTable, 0, 5), (Unsound, 0, samples.FAULTY_WILD), (NotTame, 0, samples.WILD), (InvalidCall, 1, NESTED[:5])])


def pairs(some, many):
    """All choices of these types for so many letters."""
    found = [()]
    for _ in range(many):
        found = [one + (two,) for one in found for two in some]
    return found


if __name__ == "__main__":
    unittest.main()
