"""kindsunder.splits: split, bar, is_bar, family (points 3, 27 and 28)."""

import random
import unittest

from kindsunder.bounds import keeps
from kindsunder.errors import InvalidClass, InvalidTable, NotTame, Unsound
from kindsunder.splits import bar, family, is_bar, split
from kindsunder.wrongs import InvalidBounds
from tests import bounded, drawn, oracle, oracle_bounds, samples
from tests.base import Case

EXAMPLE, ROUND = samples.EXAMPLE, samples.ROUND
NONE = ((), ())


class Split(Case):
    def test_example(self):
        bounds = ((), ((0, (2,)),))
        self.same([split(EXAMPLE, bounds, 1), split(EXAMPLE, bounds, 2), bar(EXAMPLE, (((3,),), ()), 0), family(EXAMPLE, bounds)],
                  [(((), ((2,),)),), None, [((3,), (0, "a"))], [((), ((0, (2,)),)), ((), ((2,),))]])

    def test_each_sign(self):
        for sign, lower, upper in (("+", (((1,),), ()), ((), ((1,),))), ("-", ((), ((1,),)), (((1,),), ())), ("=", (((1,),), ((1,),)), (((1,),), ((1,),))), ("*", NONE, NONE)):
            table = (((sign,), (), ()), ((), (), ()))
            self.same(split(table, (((0, (1,)),), ()), 0), (lower,))
            self.same(split(table, ((), ((0, (1,)),)), 0), (upper,))

    def test_two_parameters(self):
        """Each parameter has its own bounds, in order, also where a super has them the other way round."""
        table = ((("+", "-"), (), ()), (("-", "+"), ((0, "b", "a"),), ()), ((), (), ()), ((), (), ()))
        self.same(split(table, ((), ((0, (2,), (3,)),)), 1), (((((3,),), ()), ((), ((2,),)))))
        self.same(split(table, (((0, (2,), (3,)),), ()), 0), (((((2,),), ()), ((), ((3,),)))))
        self.same(split(table, NONE, 1), (NONE, NONE))
        self.same(split(table, NONE, 2), ())

    def test_ascending_and_once(self):
        """The types of a split are in order, and once each, from whichever types of the bounds they come."""
        upper = ((0, (0, (2,))), (0, (2,)), (0, (3,)), (1, (3,)))
        self.same(split(EXAMPLE, ((), upper), 1), (((((3,),), ((0, (2,)), (2,), (3,)))),))
        self.same(split(EXAMPLE, ((), upper[:2] + upper[2:3]), 0), ((((), ((0, (2,)), (2,), (3,)))),))
        self.same(split(EXAMPLE, (((0, (3,)), (1, (3,))), ()), 0), (((((3,),), ())),))

    def test_wants_that_go_on(self):
        """From the first wants on by supers, through inner arguments, with pairs of closed types on the way."""
        inner = (("+",), (), ())
        table = (inner, (("-",), (), ()), (("-",), ((0, (1, "a")),), ()), ((), (), ()), ((), ((3,),), ()))
        self.same(split(table, ((), ((0, (1, (3,))),)), 2), ((((3,),), ()),))
        self.same(split(table, ((), ((0, (1, (4,))),)), 2), ((((4,),), ()),))
        self.assertIsNone(split(table, ((), ((0, (0, (4,))),)), 2))
        self.same(bar(table, ((), ((0, (0, (4,))),)), 2), [((2, "a"), (0, (0, (4,)))), ((1, "a"), (0, (4,)))])
        closed = (inner, ((), ((0, (3,)),), ()), ((), ((0, (4,)),), ()), ((), (), ()), ((), ((3,),), ()))
        self.same([split(closed, ((), ((0, (4,)),)), number) for number in (0, 1, 2)], [(((), ((4,),)),), None, ()])
        self.same(bar(closed, ((), ((0, (4,)),)), 1), [((1,), (0, (4,))), ((3,), (4,))])

    def test_pairs_that_come_round(self):
        """A pair that comes round to itself is a bar, as it is refused."""
        self.same(split(ROUND, ((), ((0, (1,)),)), 1), None)
        self.same(bar(ROUND, ((), ((0, (1,)),)), 1), [((1,), (0, (1,))), ((1,), (0, (1,)))][:1])
        self.same(split(ROUND, ((), ((0, (1,)),)), 0), ((((1,),), ()),))
        self.same(split(ROUND, (((1,),), ()), 0), (((), ((0, (1,)),)),))
        found = bar(bounded.chained("+"), (((3,),), ((0, (0, (1,))),)), 2)
        self.assertTrue(oracle_bounds.bar_ok(bounded.chained("+"), (((3,),), ((0, (0, (1,))),)), 2, found))

    def test_tables(self):
        seen = {True: 0, False: 0}
        for table, bounds in bounded.cases(14):
            for number in range(len(table)):
                wanted = oracle_bounds.split(table, bounds, number)
                found = self.steady(split, table, bounds, number)
                self.same(found, wanted, (table, bounds, number))
                chain = self.steady(bar, table, bounds, number)
                self.assertEqual(chain is None, found is not None, (table, bounds, number))
                if chain is not None:
                    self.assertTrue(oracle_bounds.bar_ok(table, bounds, number, chain), (table, bounds, number, chain))
                    self.assertIs(self.steady(is_bar, table, bounds, number, chain), True)
                seen[chain is None] += 1
        self.assertGreater(min(seen.values()), 300, seen)

    def test_which_types_keep(self):
        """A closed type keeps the bounds exactly if its class is not barred, and each argument keeps its bounds of the split."""
        seen = {True: 0, False: 0}
        for table, bounds in bounded.cases(8, 305):
            for one in oracle_bounds.closed_types(table, 3, 30):
                inner = split(table, bounds, one[0])
                wanted = oracle_bounds.keeps(table, bounds, one)
                self.assertEqual(wanted, inner is not None and all([keeps(table, two, three) for two, three in zip(inner, one[1:])]))
                seen[wanted] += 1
        self.assertGreater(min(seen.values()), 300, seen)

    def test_types_of_any_size(self):
        deep = (2,)
        for _ in range(100):
            self.same(split(EXAMPLE, (((0, deep),), ()), 0), (((deep,), ()),))
            self.same(split(EXAMPLE, ((), ((0, deep),)), 1), (((), (deep,)),))
            deep = (0, deep)
        wide = (1,)
        for _ in range(7):
            wide = (0, wide, wide)
        self.same(split(bounded.TREES, (((0, wide, (1,)),), ()), 0), (((wide,), ()), (((1,),), ())))

    def test_errors(self):
        good = [EXAMPLE, (((2,),), ()), 2]
        for function, more in ((split, []), (bar, []), (is_bar, [[]])):
            self.refuses_tables(function, NONE, 0, *more)
            self.needs_sound(function, NONE, 0, *more)
            self.needs_tame(function, NONE, 0, *more)
            self.refuses_bounds(function, good + more, 1)
            self.refuses_classes(function, good + more, 2)
            self.fails_in_order(function, good + more, [
                (InvalidTable, 0, None), (Unsound, 0, samples.OBSTACLE_WILD), (NotTame, 0, samples.GROW), (InvalidBounds, 1, ((), None)), (InvalidClass, 2, 4)])
            self.fails(InvalidClass, function, (), NONE, 0, *more)
            self.fails(InvalidClass, function, EXAMPLE, NONE, True, *more)


class IsBar(Case):
    def wanted(self, table, bounds, number, value, wanted):
        self.assertEqual(oracle_bounds.bar_ok(table, bounds, number, value), wanted, value)
        self.assertIs(self.steady(is_bar, table, bounds, number, value), wanted, value)

    def test_by_hand(self):
        bounds = (((3,),), ((0, (2,)),))
        self.wanted(EXAMPLE, bounds, 0, [((3,), (0, "a"))], True)
        for value in (
                [], ((3,), (0, "a")), (((3,), (0, "a")),), [((3,), (0, "b"))], [[(3,), (0, "a")]], [((3,), (0, "a"), ())], [((3,), (0, "a")), ((3,), (0, "a"))],
                [((0, "a"), (0, (2,)))], [((0, "a"), (0, (2,))), ("a", (2,))], [("a", (2,))], [((2,), (0, "a"))], [((3,), (1, "a"))], [((0, "a"), (3,))], [None], None,
                [((True,), (0, "a"))], [((3,), (False, "a"))], [((3,), (0, ["a"]))]):
            self.wanted(EXAMPLE, bounds, 0, value, False)
        self.wanted(EXAMPLE, bounds, 2, [((2,), (0, (2,)))], True)
        self.wanted(EXAMPLE, bounds, 2, [((3,), (2,))], False)

    def test_no_bar_ends_with_an_open_pair(self):
        """An open pair is not impossible; it may be needed, but it does not stand in a bar."""
        table = ((("+",), (), ()), ((), (), ()))
        for bounds in ((((0, (1,)),), ()), ((), ((0, (1,)),))):
            start = oracle_bounds.starts_of(table, bounds, 0)[0]
            self.wanted(table, bounds, 0, [start], False)
            self.wanted(table, bounds, 0, [start, ((1,), "a")], False)
            self.wanted(table, bounds, 0, [start, ("a", (1,))], False)

    def test_pairs_that_come_round(self):
        bounds = ((), ((0, (1,)),))
        self.wanted(ROUND, bounds, 1, [((1,), (0, (1,)))], True)
        self.wanted(ROUND, bounds, 1, [((1,), (0, (1,)))] * 2, True)
        self.wanted(ROUND, bounds, 1, [((1,), (0, (1,)))] * 3, True)
        self.wanted(ROUND, bounds, 0, [((0, "a"), (0, (1,)))], False)
        table = bounded.chained("-")
        for value in ([((1,), (0, (2,)))], [((1,), (0, (2,))), ((2,), (2,))]):
            self.wanted(table, ((), ((0, (2,)),)), 1, value, oracle_bounds.bar_ok(table, ((), ((0, (2,)),)), 1, value))

    def test_bars_of_other_classes_and_bounds(self):
        some = [(bounds, number) for bounds in bounded.bounds_of(EXAMPLE, 8) for number in range(4)]
        bars = [bar(EXAMPLE, *one) for one in some]
        for one in some:
            for value in bars:
                self.assertIs(is_bar(EXAMPLE, *one, value), oracle_bounds.bar_ok(EXAMPLE, *one, value))

    def test_changed_bars(self):
        rng = random.Random(311)
        seen = {True: 0, False: 0}
        for table, bounds in bounded.cases(8, 306):
            for number in range(len(table)):
                chain = bar(table, bounds, number)
                if chain is None:
                    chain = [one for one in oracle_bounds.starts_of(table, bounds, number)]
                for _ in range(4):
                    value = drawn.twisted(rng, chain, drawn.SPARE)
                    wanted = oracle_bounds.bar_ok(table, bounds, number, value)
                    self.assertIs(self.steady(is_bar, table, bounds, number, value), wanted, (table, bounds, number, value))
                    seen[wanted] += 1
        self.assertGreater(min(seen.values()), 40, seen)

    def test_bars_along_the_wants(self):
        """All lists of up to three wants in a row: only those that are impossible at the end, or come round, are bars."""
        seen = {True: 0, False: 0}
        for table, bounds in bounded.cases(6, 307):
            for number in range(len(table)):
                rows = [[one] for one in oracle_bounds.starts_of(table, bounds, number)]
                for row in rows:
                    if len(row) < 3 and len(rows) < 40:
                        rows += [row + [one] for one in oracle_bounds.open_needs(table, row[-1]) or []]
                for row in rows:
                    wanted = oracle_bounds.bar_ok(table, bounds, number, row)
                    self.assertIs(is_bar(table, bounds, number, row), wanted, (table, bounds, number, row))
                    seen[wanted] += 1
        self.assertGreater(min(seen.values()), 60, seen)

    def test_any_values(self):
        for value in drawn.ODD:
            self.assertIs(is_bar(EXAMPLE, (((3,),), ()), 0, value), False)
            self.assertIs(is_bar(EXAMPLE, (((3,),), ()), 0, [value]), False)
            self.assertIs(is_bar(EXAMPLE, (((3,),), ()), 0, [((3,), value)]), False)
            self.assertIs(is_bar(EXAMPLE, (((3,),), ()), 0, [((3,), (0, value))]), False)


class Family(Case):
    def test_by_hand(self):
        self.same(family(EXAMPLE, NONE), [NONE])
        self.same(family((), NONE), [NONE])
        table = bounded.chained("+")
        self.same(family(table, (((1,),), ())), [(((1,),), ()), (((2,),), ())])
        self.same(family(table, (((1,), (3,)), ())), [(((1,),), ()), (((1,), (3,)), ()), (((2,),), ()), (((2,), (4,)), ())])

    def test_tables(self):
        sizes = []
        for table, bounds in bounded.cases(14, 308):
            found = self.steady(family, table, bounds)
            self.same(found, oracle_bounds.family(table, bounds), (table, bounds))
            self.assertIn(bounds, found)
            self.assertEqual(found, sorted(set(found)))
            for one in found:
                self.assertTrue(oracle_bounds.bounds_ok(table, one))
                self.assertLessEqual(len(set(one[0] + one[1])), len(set(bounds[0] + bounds[1])))
            sizes.append(len(found))
        self.assertGreater(max(sizes), 5)

    def test_errors(self):
        self.refuses_tables(family, NONE)
        self.needs_sound(family, NONE)
        self.needs_tame(family, NONE)
        self.refuses_bounds(family, [EXAMPLE, NONE], 1)
        self.fails_in_order(family, [EXAMPLE, NONE], [
            (InvalidTable, 0, None), (Unsound, 0, samples.OBSTACLE_WILD), (NotTame, 0, samples.GROW), (InvalidBounds, 1, None)])


if __name__ == "__main__":
    unittest.main()
