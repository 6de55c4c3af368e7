"""kindsunder.heights: height, are_alike, lowest (points 3 and 18)."""

import itertools
import random
import unittest

from kindsunder.errors import InvalidTable, InvalidType, InvalidTypes, NotTame, Unsound
from kindsunder.heights import are_alike, height, lowest
from tests import drawn, oracle, oracle_more, samples
from tests.base import Case

EXAMPLE, RICH, ROUND = samples.EXAMPLE, samples.RICH, samples.ROUND
BARE = ((), (), ())
# One parameter with the sign "=", below it a chain of classes; one with "*"; two with "+".
CHAIN = ((("=",), (), ()), (("*",), (), ()), (("+", "+"), (), ()), BARE, ((), ((3,),), ()))


class Height(Case):
    def test_example(self):
        self.same(height(EXAMPLE, (1, (3,)), (0, (2,))), 2)

    def test_pairs_that_need_nothing(self):
        for s, t in (("x", "x"), ((2,), (2,)), ((3,), (2,))):
            self.same(height(EXAMPLE, s, t), 1)
        self.same(height(CHAIN, (1, (3,)), (1, "x")), 1)

    def test_needed_pairs_with_different_heights(self):
        deep = (2, (2, "x", "x"), "x")
        self.same(height(CHAIN, deep, deep), 3)
        self.same(height(CHAIN, (2, "x", (2, "x", (2, (4,), "y"))), (2, "x", (2, "x", (2, (3,), "y")))), 4)
        self.same(height(CHAIN, (2, (1, deep), (0, "x")), (2, (1, "y"), (0, "x"))), 3)

    def test_pairs_that_are_not_under_each_other(self):
        for s, t in (("x", "y"), ("x", (2,)), ((2,), "x"), ((2,), (3,)), ((1, (3,)), (1, (2,))), ((0, "x"), (1, "x"))):
            self.assertIsNone(height(EXAMPLE, s, t))
        self.assertIsNone(height(CHAIN, (2, (4,), (3,)), (2, (3,), (4,))))

    def test_the_pair_that_comes_round(self):
        self.assertIsNone(height(ROUND, (1,), (0, (1,))))
        self.same(height(ROUND, (1,), (1,)), 1)
        self.same(height(ROUND, (1,), (0, (0, (1,)))), 3)

    def test_depth_6(self):
        deep = "x"
        for levels in range(1, 7):
            deep = (0, deep)
            self.same(height(EXAMPLE, deep, deep), levels + 1)
        self.fails(InvalidType, height, EXAMPLE, (0, deep), "x")

    def test_25_parts_and_a_pair_that_comes_often(self):
        """(4,) under (3,) is needed at thirteen places, at several heights; it has one height."""
        low, high = [(4,), (4,)], [(3,), (3,)]
        for _ in range(5):
            low, high = [(2, low[0], low[1]), low[0]], [(2, high[0], high[1]), high[0]]
        low, high = low[0], high[0]
        self.assertEqual((oracle.size(low), oracle.depth(low)), (25, 6))
        self.same([height(CHAIN, low, high), height(CHAIN, low, low)], [6, 6])
        self.assertIsNone(height(CHAIN, high, low))

    def test_tables(self):
        seen = set()
        for table in samples.GOOD:
            for s, t in samples.pairs_of(table, 8, 41):
                found = self.steady(height, table, s, t)
                self.same(found, oracle_more.height(table, s, t), (table, s, t))
                seen.add(found)
        self.assertTrue({None, 1, 2, 3, 4} <= seen, seen)

    def test_errors(self):
        self.refuses_tables(height, "x", "x")
        self.needs_sound(height, "x", "x")
        self.needs_tame(height, "x", "x")
        self.fails_in_order(height, [EXAMPLE, "x", "x"], [
            (InvalidTable, 0, [EXAMPLE]), (Unsound, 0, samples.OBSTACLE_WILD), (NotTame, 0, samples.WILD),
            (InvalidType, 1, (9,)), (InvalidType, 2, [2])])
        for table in (EXAMPLE, RICH, ()):
            self.refuses_types(height, table, 0, None, "x")
            self.refuses_types(height, table, 1, "x", None)


class Alike(Case):
    def test_example(self):
        self.same(are_alike(EXAMPLE, (2,), (3,)), False)

    def test_equal_types(self):
        for table in samples.GOOD:
            for one in samples.types_of(table, 5, 42):
                self.same(are_alike(table, one, one), True)

    def test_parameters_with_the_sign_star(self):
        self.same(are_alike(CHAIN, (1, (3,)), (1, (4,))), True)
        self.same(are_alike(CHAIN, (1, "x"), (1, (1, (4,)))), True)
        self.same(are_alike(CHAIN, (2, (1, "x"), (3,)), (2, (1, "y"), (3,))), True)
        self.same(are_alike(CHAIN, (0, (1, "x")), (0, (1, "y"))), True)
        self.same(are_alike(CHAIN, (2, (1, "x"), (3,)), (2, (1, "y"), (4,))), False)
        self.same(are_alike(CHAIN, (2, (1, "x"), (4,)), (2, (1, "y"), (3,))), False)
        self.same(are_alike(CHAIN, (0, (3,)), (0, (4,))), False)
        self.same([are_alike(RICH, (1, (2,), (3,)), (1, (2,), "x")), are_alike(RICH, (1, (2,), "x"), (1, (3,), "x"))],
                  [True, False])

    def test_variables(self):
        self.same([are_alike(CHAIN, "x", "x"), are_alike(CHAIN, "x", "y"), are_alike(CHAIN, "a", (3,)),
                   are_alike(CHAIN, (3,), "a"), are_alike((), "a", "a")], [True, False, False, False, True])

    def test_under_one_way_alone(self):
        self.same([are_alike(CHAIN, (4,), (3,)), are_alike(CHAIN, (3,), (4,))], [False, False])

    def test_tables(self):
        rng = random.Random(43)
        seen = {True: 0, False: 0}
        for table in samples.GOOD:
            pairs = samples.pairs_of(table, 6, 44)
            for one in samples.types_of(table, 6, 45):
                pairs.append((one, starred(rng, table, one)))
            for s, t in pairs:
                found = self.steady(are_alike, table, s, t)
                self.same(found, oracle_more.alike(table, s, t), (table, s, t))
                self.same(found, are_alike(table, t, s))
                seen[found] += s != t
        self.assertGreater(min(seen.values()), 3, seen)

    def test_errors(self):
        self.refuses_tables(are_alike, "x", "x")
        self.needs_sound(are_alike, "x", "x")
        self.needs_tame(are_alike, "x", "x")
        self.fails_in_order(are_alike, [EXAMPLE, "x", "x"], [
            (InvalidTable, 0, None), (Unsound, 0, samples.OBSTACLE_WILD), (NotTame, 0, samples.GROW),
            (InvalidType, 1, True), (InvalidType, 2, "xy")])
        for table in (EXAMPLE, RICH, ()):
            self.refuses_types(are_alike, table, 0, None, "x")
            self.refuses_types(are_alike, table, 1, "x", None)


def starred(rng, table, value):
    """The type with other arguments for the parameters with the sign "*"."""
    if type(value) is str:
        return value
    signs = table[value[0]][0]
    return value[:1] + tuple([rng.choice("xy") if sign == "*" else starred(rng, table, one)
                              for sign, one in zip(signs, value[1:])])


class Lowest(Case):
    def test_example(self):
        self.same(lowest(EXAMPLE, ((2,), (3,), "x")), [1, 2])

    def test_by_hand(self):
        for types, wanted in (
                ((), []), (((3,),), [0]), (("x",), [0]), (("x", "x"), [0, 1]), (((3,), (3,)), [0, 1]),
                (((3,), (4,)), [1]), (((4,), (3,)), [0]), (((4,), (3,), (4,), (3,)), [0, 2]),
                (((1, "x"), (1, "y"), (1, (3,)), (1, (1, "x"))), [0, 1, 2, 3]),
                (((2, (3,), (4,)), (2, (4,), (3,)), (2, (3,), (3,)), (2, (4,), (4,))), [3]),
                (((2, (3,), (4,)), (2, (4,), (3,)), (2, (3,), (3,)), "y"), [0, 1, 3]),
                (("x", "y", "x", (3,)), [0, 1, 2, 3])):
            self.same(self.steady(lowest, CHAIN, types), wanted)

    def test_the_empty_table(self):
        self.same([lowest((), ()), lowest((), ("a", "b"))], [[], [0, 1]])

    def test_tables(self):
        rng = random.Random(46)
        for table in samples.GOOD:
            pool = samples.types_of(table, 8, 47) + [one for pair in samples.pairs_of(table, 8, 47) for one in pair]
            for many in (0, 1, 2, 3, 4, 4, 4):
                types = tuple([rng.choice(pool) for _ in range(many)])
                if many > 2:
                    types = types[:-1] + (starred(rng, table, types[0]),)
                found = self.steady(lowest, table, types)
                self.same(found, oracle_more.lowest(table, types), (table, types))
                for one in types:
                    self.assertTrue(any([oracle.under(table, types[number], one) for number in found]))

    def test_all_lists_of_small_types(self):
        types = ["x", (3,), (4,), (1, "x"), (1, (3,)), (0, (3,))]
        for many in (1, 2, 3):
            for some in itertools.product(types, repeat=many):
                self.same(lowest(CHAIN, some), oracle_more.lowest(CHAIN, some))

    def test_errors(self):
        self.refuses_tables(lowest, ())
        self.needs_sound(lowest, ())
        self.needs_tame(lowest, ())
        self.fails_in_order(lowest, [EXAMPLE, ("x",)], [
            (InvalidTable, 0, list(EXAMPLE)), (Unsound, 0, samples.OBSTACLE_WILD), (NotTame, 0, samples.GROW),
            (InvalidTypes, 1, [])])

    def test_wrong_lists(self):
        self.same(lowest(EXAMPLE, ("x",) * 4), [0, 1, 2, 3])
        for value in drawn.ODD + [("x",) * 5, ["x"], [], "x", "ab", ("x", ["x"]), ((2,), [2]), ((True,),), ((4,),), ((2,), None)]:
            good = type(value) is tuple and len(value) <= 4 and all([oracle.passable(EXAMPLE, one) for one in value])
            if good:
                lowest(EXAMPLE, value)
            else:
                self.fails(InvalidTypes, lowest, EXAMPLE, value)
        deep = "x"
        for _ in range(7):
            deep = (0, deep)
        self.fails(InvalidTypes, lowest, EXAMPLE, ("x", deep))
        self.same(lowest(EXAMPLE, ("x", deep[1])), [0, 1])


if __name__ == "__main__":
    unittest.main()
