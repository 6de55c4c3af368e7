"""kindsunder.fitting: fitting (point 19)."""

import unittest

from kindsunder.above import above
from kindsunder.deciding import is_under
from kindsunder.errors import InvalidClass, InvalidTable, InvalidType, NotTame, Unsound
from kindsunder.fitting import fitting
from tests import oracle, oracle_more, samples
from tests.base import Case

EXAMPLE, RICH, ROUND = samples.EXAMPLE, samples.RICH, samples.ROUND
BARE = ((), (), ())
# Classes 0 and 1 have all four signs; class 2 is under class 3 (no parameters); class 4 has parameters deep within.
DEEP = ((("+", "-"), (), ()), (("=", "*"), (), ()), ((), ((3,),), ()), BARE,
        (("+", "="), ((0, (0, "a", (3,)), "b"), (1, "b", (2,))), ()))
# The parameter stands at a place with the sign "+" that two negative ones make, and under a class above.
TWICE = ((("-",), (), ()), (("+",), ((0, (0, "a")),), ()), ((), ((3,),), ()), BARE, (("-",), ((1, (0, "a")),), ()))


class Fitting(Case):
    def fit(self, table, number, value):
        """A type of the class under the type, or None."""
        found = self.steady(fitting, table, number, value)
        if found is not None:
            self.assertTrue(oracle.type_ok(oracle.counts_of(table), found), found)
            self.assertEqual(found[0], number)
            self.assertTrue(oracle.under(table, found, value), (table, number, value, found))
        return found

    def yes(self, table, number, value):
        self.assertIsNotNone(self.fit(table, number, value), (table, number, value))

    def no(self, table, number, value):
        self.assertIsNone(self.fit(table, number, value), (table, number, value))

    def test_example(self):
        self.same([fitting(EXAMPLE, 3, (2,)), fitting(EXAMPLE, 2, (0, (2,)))], [(3,), None])

    def test_each_sign(self):
        for value in ((0, "x", "y"), (0, (3,), (2,)), (0, "a", "b"), (0, "b", "a"), (1, "x", "y"), (1, (2,), (3,))):
            self.yes(DEEP, value[0], value)
            self.no(DEEP, 1 - value[0], value)
        self.same(fitting(DEEP, 0, (0, "b", "a")), (0, "b", "a"))
        self.same(fitting(DEEP, 1, (1, (3,), (2,)))[:2], (1, (3,)))

    def test_depths_and_signs(self):
        """Above class 4 are (0, (0, "a", (3,)), "b") with "a" at a "+", (3,) and "b" at a "-", and (1, "b", (2,))."""
        for value in ((0, (0, "x", (3,)), "y"), (0, (0, "x", (2,)), (1, (3,), "z")), (0, (0, (2,), (2,)), "a"), (1, "y", "z")):
            self.yes(DEEP, 4, value)
        for value in ((0, "x", (1, "y", (2,))), (0, (0, "x", "y"), "z"), (0, (3,), (1, "x", "x")), (0, (0, "x", (1, "x", "y")), "y"),
                      (0, (1, "x", (3,)), "x"), "x", (3,), (2,)):
            self.no(DEEP, 4, value)
        self.same(fitting(DEEP, 4, (0, (0, "b", (3,)), "a")), (4, "b", "a"))

    def test_both_ways(self):
        """At a "=" the part and what is given must be of one class: under each other both ways."""
        table = ((("=",), (), ()), (("+",), ((2, "a"),), ()), (("+",), (), ()), (("+",), ((0, (1, (4,))),), ()), BARE)
        inner = table[:3] + ((("=",), ((0, (1, "a")),), ()), ((), (), ()))
        self.yes(inner, 3, (0, (1, "x")))
        self.same(fitting(inner, 3, (0, (1, (2, "x")))), (3, (2, "x")))
        for value in ((2, "x"), "x", (3, "x"), (0, "x"), (4,)):
            self.no(inner, 3, (0, value))
        self.yes(table, 3, (0, (1, (4,))))
        self.no(table, 3, (0, (1, "x")))
        self.no(table, 3, (0, (2, (4,))))

    def test_one_part_with_two_signs(self):
        """(3,) is under (2,), and not the other way round."""
        table = ((("+", "-"), (), ()), BARE, BARE, ((), ((2,),), ()), ((), ((0, (3,), (3,)),), ()))
        self.yes(table, 4, (0, (2,), (3,)))
        self.yes(table, 4, (0, (3,), (3,)))
        self.no(table, 4, (0, (2,), (2,)))
        self.no(table, 4, (0, (1,), (3,)))

    def test_two_negative_signs(self):
        for value in ((0, (0, "x")), (0, (0, (2,))), (0, (0, (0, "a")))):
            self.yes(TWICE, 1, value)
            self.no(TWICE, 2, value)
        self.no(TWICE, 1, (0, (3,)))
        self.no(TWICE, 1, (0, "x"))
        self.yes(TWICE, 4, (1, (0, "x")))
        self.yes(TWICE, 4, (0, (0, (0, "x"))))
        self.no(TWICE, 4, (0, (0, "x")))

    def test_a_supertype_of_what_is_given(self):
        """At a "-" the given type is raised to the class of the part: (1, x) is under (0, (0, x))."""
        found = self.fit(TWICE, 1, (0, (1, (3,))))
        self.assertIsNotNone(found)
        self.same(found, (1, (0, (3,))))

    def test_variables(self):
        for table in (EXAMPLE, RICH, DEEP):
            for number in range(len(table)):
                for letter in "abxz":
                    self.no(table, number, letter)
        self.same(fitting(EXAMPLE, 1, (0, "a")), (1, "a"))
        self.same(fitting(EXAMPLE, 1, (0, "z")), (1, "z"))
        self.same(fitting(RICH, 4, (0, "b", (2,))), (4, "b"))
        self.no(RICH, 4, (0, "b", "a"))

    def test_a_pair_that_comes_round(self):
        self.no(ROUND, 1, (0, (1,)))
        self.yes(ROUND, 1, (0, (0, (1,))))
        self.yes(ROUND, 0, (0, (1,)))
        self.no(ROUND, 0, (1,))

    def test_the_class_of_the_type(self):
        """The type itself is of its class, so something fits."""
        for table in samples.GOOD:
            for one in samples.types_of(table, 8, 51):
                if type(one) is tuple:
                    self.yes(table, one[0], one)

    def test_what_is_under_shows_that_something_fits(self):
        for table in samples.GOOD:
            for s, t in samples.pairs_of(table, 16, 52):
                if type(s) is tuple and oracle.under(table, s, t):
                    self.yes(table, s[0], t)

    def test_tables(self):
        """None exactly if no arguments fit, all those of the closure tried."""
        seen = {True: 0, False: 0}
        for table in samples.GOOD:
            counts = oracle.counts_of(table)
            for one in samples.types_of(table, 9, 53, "ax", 3, 6):
                many = len(oracle.closure(table, (one,))) + 1
                for number in range(len(table)):
                    found = self.fit(table, number, one)
                    if many ** counts[number] <= 120:
                        self.assertEqual(found is None, oracle_more.fits_class(table, number, one) is None, (table, number, one))
                        seen[found is None] += 1
        self.assertGreater(min(seen.values()), 100, seen)

    def test_supers_of_each_class(self):
        """A super with other arguments, and other types at the places of its parts."""
        for table in samples.GOOD:
            for number, row in enumerate(table):
                for one in row[1]:
                    for arguments in (("x", "y"), ("b", "a"), ((number,) + ("z",) * len(row[0]),) * 2):
                        value = oracle.put(one, arguments)
                        if oracle.passable(table, value):
                            self.yes(table, number, value)

    def test_the_instance_is_under_all_others(self):
        """Point 19: of all types of a class that a type is under, its instance is under all others."""
        for table in samples.GOOD[::2]:
            for s, t in samples.pairs_of(table, 12, 54):
                if type(s) is tuple and type(t) is tuple and is_under(table, s, t):
                    instance = above(table, s, t[0])
                    if oracle.passable(table, instance):
                        self.assertTrue(is_under(table, instance, t))

    def test_greater_types_are_returned(self):
        """The fitting type is deeper than what may be passed."""
        table = ((("-",), (), ()), (("+",), (), ()), BARE, (("+",), ((1, (1, (1, "a"))),), ()), (("-",), ((0, (1, "a")),), ()))
        inner = (3, (3, (3, (2,))))
        self.same(self.fit(table, 4, (0, (3, inner))), (4, (1, (1, inner))))
        self.assertEqual(oracle.depth((4, (1, (1, inner)))), 7)

    def test_errors(self):
        self.refuses_tables(fitting, 0, "x")
        self.needs_sound(fitting, 0, "x")
        self.needs_tame(fitting, 0, "x")
        self.fails_in_order(fitting, [EXAMPLE, 3, (2,)], [
            (InvalidTable, 0, list(EXAMPLE)), (Unsound, 0, samples.OBSTACLE_WILD), (NotTame, 0, samples.WILD),
            (InvalidClass, 1, 4), (InvalidType, 2, (4,))])
        self.fails_in_order(fitting, [EXAMPLE, 3, (2,)], [(InvalidClass, 1, True), (InvalidType, 2, [2])])
        self.refuses_classes(fitting, [EXAMPLE, 0, "x"], 1)
        self.fails(InvalidClass, fitting, (), 0, "x")
        for table in (EXAMPLE, RICH):
            self.refuses_types(fitting, table, 1, 0, None)


if __name__ == "__main__":
    unittest.main()
