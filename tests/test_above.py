"""kindsunder.above: classes_above, way, above (points 7, 9, 11)."""

import unittest

from kindsunder.above import above, classes_above, way
from kindsunder.errors import InvalidClass, InvalidTable, InvalidType, Unsound
from tests import oracle, samples
from tests.base import Case

EXAMPLE = samples.EXAMPLE


class ClassesAboveAndWay(Case):
    def test_examples(self):
        self.same(classes_above(EXAMPLE, 3), [2, 3])
        self.same([way(EXAMPLE, 1, 0), way(EXAMPLE, 0, 1)], [[0], None])

    def test_by_hand(self):
        table = (((), (), ()), ((), ((0,),), ()), ((), ((0,),), ()), ((), ((1,), (2,)), ()), ((), ((2,), (3,)), ()))
        self.same([classes_above(table, one) for one in range(5)],
                  [[0], [0, 1], [0, 2], [0, 1, 2, 3], [0, 1, 2, 3, 4]])
        self.same([way(table, 4, 4), way(table, 4, 2) in ([0], [1, 1]), way(table, 4, 1)], [[], True, [1, 0]])
        self.same([way(table, 1, 2), way(table, 0, 4), way(table, 3, 4)], [None, None, None])

    def test_rings(self):
        self.same([classes_above(samples.RING, one) for one in range(3)], [[0, 1, 2]] * 3)
        self.same(classes_above(samples.SELF_RING, 1), [1])
        for low in range(3):
            for high in range(3):
                self.assertTrue(oracle.way_ok(samples.RING, low, high, way(samples.RING, low, high)))
        self.same(way(samples.RING, 1, 1), [])

    def test_only_the_class_of_a_super_is_above(self):
        self.same([classes_above(samples.GROW, 1), classes_above(samples.GROW, 0)], [[0, 1], [0]])
        table = (((), (), ()), (("+",), (), ()), ((), ((1, (0,)),), ()))
        self.same([classes_above(table, 2), way(table, 2, 0)], [[1, 2], None])

    def test_tables(self):
        for table in samples.TABLES:
            for low in range(len(table)):
                found = self.steady(classes_above, table, low)
                self.same(found, list(oracle.classes_above(table, low)))
                for high in range(len(table)):
                    numbers = self.steady(way, table, low, high)
                    if low == high:
                        self.same(numbers, [])
                    elif high in found:
                        self.assertTrue(oracle.way_ok(table, low, high, numbers), (table, low, high, numbers))
                    else:
                        self.assertIsNone(numbers)

    def test_errors(self):
        self.refuses_tables(classes_above, 0)
        self.refuses_tables(way, 0, 0)
        for table in (EXAMPLE, samples.RING, samples.GROW):
            self.refuses_classes(classes_above, [table, 0], 1)
            self.refuses_classes(way, [table, 0, 0], 1)
            self.refuses_classes(way, [table, 0, 0], 2)
        self.fails(InvalidClass, classes_above, (), 0)
        self.fails_in_order(classes_above, [EXAMPLE, 0], [(InvalidTable, 0, 0), (InvalidClass, 1, 4)])
        self.fails_in_order(way, [EXAMPLE, 0, 0], [(InvalidTable, 0, 0), (InvalidClass, 1, 4), (InvalidClass, 2, True)])


class Above(Case):
    def test_example(self):
        self.same(above(EXAMPLE, (1, "x"), 0), (0, "x"))

    def test_by_hand(self):
        rich = samples.RICH
        for shape, number, result in (
                ((4, "x"), 0, (0, "x", (2,))), ((4, "x"), 1, (1, "x", (3,))), ((4, "x"), 4, (4, "x")),
                ((4, (1, "b", "a")), 0, (0, (1, "b", "a"), (2,))), ((1, "b", "a"), 0, (0, "b", (2,))),
                ((1, "b", "a"), 1, (1, "b", "a")), ((3,), 2, (2,)), ((2,), 3, None), ((0, "a", "b"), 1, None),
                ("x", 0, None), ("a", 2, None)):
            self.same(above(rich, shape, number), result, (shape, number))
        self.same(above(samples.DIAMOND, (4,), 0), (0, (4,)))
        self.same(above(samples.WILD, (2,), 0), (0, (1, (0, (2,)))))

    def test_arguments_go_in_at_once(self):
        table = ((("=", "="), (), ()), (("=", "="), ((0, "b", "a"),), ()), (("=", "="), ((1, "b", "a"),), ()))
        self.same(above(table, (1, (1, "a", "b"), "a"), 0), (0, "a", (1, "a", "b")))
        self.same(above(table, (2, "b", "a"), 0), (0, "b", "a"))
        self.same(above(table, (2, "b", "a"), 1), (1, "a", "b"))

    def test_tables(self):
        for table in samples.SOUND:
            for shape in samples.types_of(table, 10, 8, "abx"):
                for number in range(len(table)):
                    self.same(self.steady(above, table, shape, number), oracle.above(table, shape, number))

    def test_errors(self):
        self.refuses_tables(above, "x", 0)
        self.needs_sound(above, "x", 0)
        self.refuses_types(above, EXAMPLE, 0, None, 0)
        self.refuses_types(above, samples.RICH, 0, None, 4)
        self.refuses_types(above, samples.WILD, 0, None, 0)
        self.refuses_classes(above, [EXAMPLE, (3,), 0], 2)
        self.refuses_classes(above, [EXAMPLE, "x", 0], 2)
        self.fails(InvalidClass, above, (), "x", 0)
        self.fails_in_order(above, [EXAMPLE, (3,), 0], [
            (InvalidTable, 0, 0), (Unsound, 0, samples.RING), (InvalidType, 1, (4,)), (InvalidClass, 2, 4)])


if __name__ == "__main__":
    unittest.main()
