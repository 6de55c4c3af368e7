"""kindsunder.calls: is_call, opened, call_bar, first_choice, fits, best_choice (points 3, 27 and 34)."""

import itertools
import random
import unittest

from kindsunder.calls import best_choice, call_bar, first_choice, fits, is_call, opened
from kindsunder.errors import InvalidTable, NotTame, Unsound
from kindsunder.wrongs import InvalidCall, InvalidChoice
from tests import bounded, drawn, oracle, oracle_bounds, oracle_calls, samples
from tests.base import Case

EXAMPLE = samples.EXAMPLE
SIMPLE = ((1, ("a", "a"), (0, "a")), ((2,), (3,)), None)
BAD_CALLS = [
    None, (), [], 0, "a", SIMPLE[0], SIMPLE[:2], SIMPLE + (None,), list(SIMPLE), (list(SIMPLE[0]),) + SIMPLE[1:], ((3, (), (2,)), (), None), ((-1, (), (2,)), (), None),
    ((True, (), (2,)), (), None), (("1", (), (2,)), (), None), ((1, (), "b"), (), None), ((0, (), "a"), (), None), ((2, (), "c"), (), None), ((1, ("a",), (2,)), (), None),
    ((1, (), (2,)), ((2,),), None), ((1, ("a",) * 4, (2,)), ((2,),) * 4, None), ((1, ["a"], (2,)), ((2,),), None), ((1, ("a",), (2,)), [(2,)], None),
    ((1, ("a",), (2,)), ("a",), None), ((1, ("a",), (2,)), ((0, "a"),), None), ((1, ("a",), (2,)), ((2,),), "a"), ((1, ("a",), (2,)), ((2,),), (0, "a")),
    ((1, ("a",), (2,)), ((2,),), False), ((1, ("b",), (2,)), ((2,),), None), ((1, ("a",), (0, "b")), ((2,),), None), ((1, ((0, "x"),), (2,)), ((2,),), None),
    ((1, ("a",), (0, (0, (0, (0, "a"))))), ((2,),), None), ((1, ((0, (0, (0, (2,)))),), "a"), ((2,),), None), ((1, ("a",), (4,)), ((2,),), None), ((1, ("a",), (0,)), ((2,),), None),
    ((1, ("a",), [2]), ((2,),), None), ((1, ("a",), (0, [2])), ((2,),), None), ((1, ("a",), None), ((2,),), None), ((1, ("a",), (True, "a")), ((2,),), None)]


class IsCall(Case):
    def wanted(self, value, wanted, table=EXAMPLE):
        self.assertEqual(oracle_calls.call_ok(table, value), wanted, value)
        self.assertIs(self.steady(is_call, table, value), wanted, value)

    def test_by_hand(self):
        for value in (SIMPLE, SIMPLE[:2] + ((2,),), ((0, (), (2,)), (), None), ((2, (), "b"), (), (0, (2,))), ((2, ("b", "a", (0, "a")), (1, "b")), ((2,), (3,), (0, (2,))), None),
                      ((1, (), (0, (0, "a"))), (), None), ((0, ((0, (0, (2,))),), (2,)), ((2,),), None)):
            self.wanted(value, True)
        for value in BAD_CALLS:
            self.wanted(value, False)

    def test_limits_of_size(self):
        """A depth of at most 3 and at most 5 parts in the signature, any size for arguments and wish."""
        table = bounded.TREES
        five, more = (0, (0, "a", "b"), (1,)), (0, (0, "a", "b"), (0, "a", "b"))
        for shape, wanted in ((five, True), (more, False), ((3, (3, (3, "a"))), True), ((3, (3, (3, (3, "a")))), False), ((3, (3, (1,))), True), ((0, "a", (3, (3, (1,)))), False)):
            self.wanted(((2, (shape,), "a"), ((1,),), None), wanted, table)
            self.wanted(((2, (), shape), (), None), wanted, table)
        deep = (1,)
        for _ in range(100):
            deep = (3, deep)
        self.wanted(((1, ("a",), "a"), (deep,), deep), True, table)
        self.wanted(((1, ("a",), "a"), ((0, deep, "a"),), deep), False, table)

    def test_changed_calls(self):
        rng = random.Random(361)
        seen = {True: 0, False: 0}
        for table, call in bounded.calls(8, 362):
            self.wanted(call, True, table)
            for _ in range(5):
                value = drawn.twisted(rng, call, drawn.SPARE)
                wanted = oracle_calls.call_ok(table, value)
                self.assertIs(self.steady(is_call, table, value), wanted, (table, value))
                seen[wanted] += 1
        self.assertGreater(min(seen.values()), 100, seen)

    def test_any_values(self):
        for value in drawn.ODD:
            for one in (value, (value,) + SIMPLE[1:], SIMPLE[:1] + (value, None), SIMPLE[:2] + (value,), ((value, (), (2,)), (), None), ((1, value, (2,)), (), None), ((1, (), value), (), None),
                        ((1, (value,), (2,)), ((2,),), None), ((1, ("a",), (2,)), (value,), None), ((1, ((0, value),), (2,)), ((2,),), None)):
                self.assertIs(is_call(EXAMPLE, one), oracle_calls.call_ok(EXAMPLE, one), one)

    def test_errors(self):
        self.refuses_tables(is_call, SIMPLE)
        self.needs_sound(is_call, SIMPLE)
        self.needs_tame(is_call, SIMPLE)


class Opened(Case):
    def test_example(self):
        self.same([opened(EXAMPLE, SIMPLE), best_choice(EXAMPLE, SIMPLE), first_choice(EXAMPLE, (SIMPLE[0], SIMPLE[1], (0, (3,))))], [((((2,), (3,)), ()),), ((2,),), None])

    def test_by_hand(self):
        none = ((), ())
        for call, wanted in (
                (((0, (), (2,)), (), None), ()), (((0, ((2,),), (2,)), ((3,),), (2,)), ()), (((0, ((3,),), (2,)), ((2,),), None), None), (((0, (), (2,)), (), (3,)), None),
                (((2, (), (2,)), (), None), (none, none)), (((2, ("b",), (2,)), ((2,),), None), (none, (((2,),), ()))), (((1, ("a",), "a"), ((3,),), (2,)), ((((3,),), ((2,),)),)),
                (((1, ((1, "a"),), "a"), ((1, (3,)),), None), ((((3,),), ((3,),)),)), (((1, ((1, "a"),), "a"), ((0, (3,)),), None), None),
                (((2, ((0, "b"), "a"), (0, "a")), ((1, (3,)), (2,)), (0, (2,))), ((((2,),), ((2,),)), (((3,),), ()))),
                (((1, (), "a"), (), (0, (2,))), (((), ((0, (2,)),)),))):
            self.same(opened(EXAMPLE, call), wanted, call)

    def test_calls(self):
        seen = {True: 0, False: 0}
        for table, call in bounded.calls(40, 363):
            found, chain = self.steady(opened, table, call), self.steady(call_bar, table, call)
            self.same(found, oracle_calls.opened(table, call), (table, call))
            self.assertEqual(found is None, chain is not None)
            if chain is not None:
                self.assertTrue(oracle_calls.call_bar_ok(table, call, chain), (table, call, chain))
            seen[found is None] += 1
        self.assertGreater(min(seen.values()), 100, seen)

    def test_bars(self):
        self.same(call_bar(EXAMPLE, ((1, ("a",), (2,)), ((2,),), (3,))), [((2,), (3,))])
        self.same(call_bar(EXAMPLE, ((1, ((0, (3,)),), "a"), ((0, (2,)),), None)), [((0, (2,)), (0, (3,))), ((2,), (3,))])
        self.assertIsNone(call_bar(EXAMPLE, SIMPLE))

    def test_errors(self):
        for function, more in ((opened, []), (call_bar, []), (first_choice, []), (best_choice, []), (fits, [((2,),)])):
            self.refuses_tables(function, SIMPLE, *more)
            self.needs_sound(function, SIMPLE, *more)
            self.needs_tame(function, SIMPLE, *more)
            for value in BAD_CALLS + drawn.ODD:
                self.fails(InvalidCall, function, EXAMPLE, value, *more)
            self.fails_in_order(function, [EXAMPLE, SIMPLE] + more, [
                (InvalidTable, 0, 5), (Unsound, 0, samples.FAULTY_WILD), (NotTame, 0, samples.WILD), (InvalidCall, 1, SIMPLE[:2])] + [(InvalidChoice, 2, ())] * len(more))


class Choices(Case):
    def test_small_choices_one_by_one(self):
        """A choice fits exactly if the call is not barred and each type keeps the bounds of its letter."""
        seen = {True: 0, False: 0}
        for table, call in bounded.calls(20, 364):
            limits = opened(table, call)
            for choice in itertools.product(oracle_bounds.closed_types(table, 2, 12)[:7], repeat=call[0][0]):
                wanted = oracle_calls.fits(table, call, choice)
                self.assertIs(fits(table, call, choice), wanted, (table, call, choice))
                self.assertEqual(wanted, limits is not None and all([oracle_bounds.keeps(table, one, two) for one, two in zip(limits, choice)]))
                seen[wanted] += 1
        self.assertGreater(min(seen.values()), 1000, seen)

    def test_first_choices(self):
        seen = {True: 0, False: 0}
        for table, call in bounded.calls(25, 365):
            found = self.steady(first_choice, table, call)
            limits = oracle_calls.opened(table, call)
            wanted = None if limits is None else tuple([oracle_bounds.first_keeper(table, one) for one in limits])
            self.same(found, None if wanted is None or None in wanted else wanted, (table, call))
            if found is None:
                self.assertEqual(oracle_calls.choices(table, call), [], (table, call))
            else:
                self.assertTrue(oracle_calls.fits(table, call, found) and fits(table, call, found), (table, call, found))
            seen[found is None] += 1
        self.assertGreater(min(seen.values()), 100, seen)

    def test_best_choices(self):
        seen = {}
        for table, call in bounded.calls(30, 366):
            found = self.steady(best_choice, table, call)
            small = oracle_calls.choices(table, call)
            result = call[0][2]
            if found is None:
                self.assertFalse(any([oracle_calls.is_best(table, call, one) for one in small[:12]]), (table, call))
            else:
                self.assertTrue(oracle_calls.is_best(table, call, found), (table, call, found))
                for one in small:
                    self.assertTrue(oracle_bounds.under(table, oracle.put(result, found), oracle.put(result, one)), (table, call, found, one))
            kind = (found is None, small == [], sorted({len(oracle_calls.sides(table, call, letter)) for letter in "ab"[:call[0][0]]}) == [2])
            seen[kind] = seen.get(kind, 0) + 1
        self.assertGreater(seen[(True, False, False)], 40, seen)
        self.assertGreater(seen[(False, False, False)], 100, seen)

    def test_best_by_hand(self):
        table = ((("+", "-"), (), ()), ((), (), ()), ((), ((1,),), ()), (("=",), (), ()), (("*",), (), ()))
        for parameters, arguments, result, wanted in (
                (("a",), ((2,),), "a", ((2,),)), (("a",), ((2,),), (0, "a", "a"), None), (("a",), ((2,),), (0, (1,), "a"), ((1,),)), (("a",), ((2,),), (3, "a"), None),
                (("a",), ((1,),), (3, "a"), ((1,),)), (("a", (3, "a")), ((2,), (3, (1,))), (3, "a"), ((1,),)), (("a",), ((2,),), (0, (1,), (0, (1,), "a")), ((2,),)),
                ((), (), "a", None), ((), (), (1,), ((1,),)), ((), (), (4, "a"), ((1,),)), (((3, "a"),), ((3, (2,)),), (0, "a", "a"), ((2,),))):
            self.same(best_choice(table, ((1, parameters, result), arguments, None)), wanted, (parameters, result))
        self.same(best_choice(table, ((0, (), (1,)), (), None)), ())
        self.same([best_choice(table, ((0, (), (1,)), (), (2,))), first_choice(table, ((0, (), (1,)), (), (2,)))], [None, None])
        self.same(first_choice(table, ((0, (), (2,)), (), (1,))), ())
        self.same(best_choice(table, ((2, ("a", "b"), (0, "a", "b")), ((2,), (2,)), None)), ((2,), (1,)))

    def test_wrong_choices(self):
        for value in drawn.ODD + [((2,), (2,)), [(2,)], "a", ("a",), ((0, "a"),), ((4,),), ((0,),), ((True,),), (2,), ((2,), None)]:
            self.fails(InvalidChoice, fits, EXAMPLE, SIMPLE, value)
        two = ((2, ("a", "b"), "a"), ((2,), (2,)), None)
        for value in ((), ((2,),), ((2,),) * 3, ((2,), "b"), ((2,), None), [(2,), (2,)]):
            self.fails(InvalidChoice, fits, EXAMPLE, two, value)
        self.same([fits(EXAMPLE, two, ((2,), (2,))), fits(EXAMPLE, two, ((3,), (2,))), fits(EXAMPLE, ((0, (), (2,)), (), None), ())], [True, False, True])
        self.fails(InvalidChoice, fits, EXAMPLE, ((0, (), (2,)), (), None), ((2,),))


if __name__ == "__main__":
    unittest.main()
