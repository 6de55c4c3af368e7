"""kindsunder.sound: order, ring, obstacles, clash, double_name, fault (points 7 to 10)."""

import unittest

from kindsunder.above import above
from kindsunder.errors import InvalidClass, InvalidParameter, InvalidSign, InvalidTable, NotInOrder, Unsound
from kindsunder.sound import clash, double_name, fault, obstacles, order, ring
from tests import oracle, samples
from tests.base import Case

EXAMPLE = samples.EXAMPLE


class OrderAndRing(Case):
    def test_example(self):
        self.same([order((((), (), ()), ((), ((0,),), ()))), ring((((), ((0,),), ()),))], [[0, 1], [0]])

    def test_exactly_one_of_both(self):
        for table in samples.TABLES:
            found, circle = self.steady(order, table), self.steady(ring, table)
            if oracle.in_order(table):
                self.assertTrue(isinstance(found, list) and oracle.order_ok(table, found), (table, found))
                self.assertTrue(all(oracle.whole(one) for one in found))
                self.assertIsNone(circle, table)
            else:
                self.assertIsNone(found, table)
                self.assertTrue(oracle.ring_ok(table, circle), (table, circle))

    def test_all_edges_between_few_classes(self):
        """Every table of up to three classes without parameters."""
        for many in (0, 1, 2, 3):
            choices = [()] + [((one,),) for one in range(many)]
            choices += [((one,), (two,)) for one in range(many) for two in range(many) if one != two]
            tables = [()]
            for _ in range(many):
                tables = [table + (((), one, ()),) for table in tables for one in choices]
            for table in tables:
                found, circle = order(table), ring(table)
                if found is None:
                    self.assertFalse(oracle.in_order(table), table)
                    self.assertTrue(oracle.ring_ok(table, circle), (table, circle))
                else:
                    self.assertTrue(oracle.order_ok(table, found), (table, found))
                    self.assertIsNone(circle, table)

    def test_only_the_class_of_a_super_counts(self):
        """A class within its own super, as an argument, makes no ring."""
        self.same([order(samples.GROW), ring(samples.GROW)], [[0, 1], None])
        self.same([ring(((("+",), ((0, "a"),), ()),)), order(((("+",), ((0, "a"),), ()),))], [[0], None])

    def test_long_ring(self):
        table = tuple([((), (((number + 1) % 5,),), ()) for number in range(5)])
        circle = ring(table)
        self.assertEqual(sorted(circle), [0, 1, 2, 3, 4])
        self.assertTrue(oracle.ring_ok(table, circle), circle)
        self.assertIsNone(order(table))

    def test_empty_table(self):
        self.same([order(()), ring(())], [[], None])

    def test_errors(self):
        self.refuses_tables(order)
        self.refuses_tables(ring)


class Obstacles(Case):
    def test_example(self):
        self.same(obstacles(EXAMPLE, 1, 0, "+"), [("member", 0, ())])

    def test_by_hand(self):
        table = (
            (("+", "-"), (), ()),
            (("*",), (), ()),
            (("=",), (), ()),
            (("+", "-"), ((0, "a", "b"), (0, "b", "a")),
             ((7, "put", (0, "a", (1, "b"))), (2, "both", "b"), (5, "get", (2, "a")))))
        self.same(obstacles(table, 3, 0, "+"), [("member", 0, (0,)), ("member", 2, (0,)), ("super", 1, (1,))])
        self.same(obstacles(table, 3, 0, "-"), [("member", 2, (0,)), ("super", 0, (0,))])
        self.same(obstacles(table, 3, 0, "="), [])
        self.same(obstacles(table, 3, 0, "*"), [
            ("member", 0, (0,)), ("member", 2, (0,)), ("super", 0, (0,)), ("super", 1, (1,))])
        self.same(obstacles(table, 3, 1, "+"), [("member", 1, ()), ("super", 0, (1,))])
        self.same(obstacles(table, 3, 1, "-"), [("member", 1, ()), ("super", 1, (0,))])
        self.same(obstacles(table, 3, 1, "="), [])
        self.same(obstacles(table, 3, 1, "*"), [("member", 1, ()), ("super", 0, (1,)), ("super", 1, (0,))])
        self.same(obstacles(table, 0, 0, "*"), [])

    def test_the_sign_that_is_passed_does_not_change_places(self):
        """The parameter stands in a type of its own class: the place has the sign of the table."""
        table = ((("-",), (), ((0, "get", (0, (0, "a"))), (1, "get", (0, "a")))),)
        self.same(obstacles(table, 0, 0, "+"), [("member", 1, (0,))])
        self.same(obstacles(table, 0, 0, "-"), [("member", 0, (0, 0))])
        self.same(obstacles(table, 0, 0, "="), [])

    def test_a_parameter_at_several_places(self):
        table = ((("+", "-"), (), ()), (("+",), (), ((3, "both", (0, "a", "a")), (1, "put", (0, (0, "a", "a"), "a")))))
        self.same(obstacles(table, 1, 0, "+"), [
            ("member", 0, (0,)), ("member", 0, (1,)), ("member", 1, (0, 0))])
        self.same(obstacles(table, 1, 0, "-"), [
            ("member", 0, (0,)), ("member", 0, (1,)), ("member", 1, (0, 1)), ("member", 1, (1,))])

    def test_tables(self):
        for table in samples.TABLES:
            for number, row in enumerate(table):
                for parameter in range(len(row[0])):
                    for sign in "+-=*":
                        self.same(self.steady(obstacles, table, number, parameter, sign),
                                  oracle.obstacles(table, number, parameter, sign))

    def test_wrong_classes(self):
        self.refuses_classes(obstacles, [EXAMPLE[:2], 0, 0, "+"], 1)
        self.refuses_classes(obstacles, [samples.RICH[:1], 0, 1, "+"], 1)
        self.fails(InvalidClass, obstacles, (), 0, 0, "+")

    def test_wrong_parameters(self):
        for table in samples.TABLES:
            for number, row in enumerate(table):
                for value in samples.ODD + [0, 1, 2, 3, -2, "a", "b"]:
                    if oracle.whole(value) and 0 <= value < len(row[0]):
                        obstacles(table, number, value, "+")
                    else:
                        self.fails(InvalidParameter, obstacles, table, number, value, "+")

    def test_wrong_signs(self):
        for value in samples.ODD + ["++", "+-=*", ("+",), ["+"]]:
            self.fails(InvalidSign, obstacles, EXAMPLE, 0, 0, value)

    def test_errors(self):
        self.refuses_tables(obstacles, 0, 0, "+")
        self.fails_in_order(obstacles, [EXAMPLE, 0, 0, "+"], [
            (InvalidTable, 0, list(EXAMPLE)), (InvalidClass, 1, 4), (InvalidParameter, 2, 1), (InvalidSign, 3, "get")])
        self.fails_in_order(obstacles, [EXAMPLE, 0, 0, "+"], [
            (InvalidClass, 1, False), (InvalidParameter, 2, False), (InvalidSign, 3, True)])


class ClashAndDoubleName(Case):
    def test_example(self):
        table = ((("+",), (), ()), ((), (), ()), ((), ((0, (1,)), (0, (2,))), ()))
        self.same(clash(table)[:2], (2, 0))
        self.same(double_name((((), (), ((3, "get", (0,)),)), ((), ((0,),), ((3, "put", (0,)),)))), (1, 3, 0, 1))

    def test_clash_by_hand(self):
        self.assertIn(clash(samples.CLASH), oracle.clashes(samples.CLASH))
        self.assertIsNone(clash(samples.NAME))
        self.assertIsNone(clash(samples.DIAMOND))
        self.assertIsNone(clash(()))
        # The same instance twice, directly, is none; two of the second super alone are one.
        one, two = (("+",), (), ()), (("+",), ((0, (0, "a")), (0, "a")), ())
        self.assertIsNone(clash((one, (("+",), ((0, "a"), (0, "a")), ()))))
        self.assertIn(clash((one, two)), oracle.clashes((one, two)))
        far = (one, (("+",), ((0, "a"),), ()), (("+",), ((0, (0, "a")), (1, "a")), ()), ((), ((2, (3,)),), ()))
        self.assertIn(clash(far), oracle.clashes(far))
        self.assertIn(clash(far)[0], (2, 3))

    def test_more_than_two_instances(self):
        bare = ((), (), ())
        table = ((("+",), (), ()), ((), ((2,), (0, (3,))), ()), ((), ((0, (1,)), (0, (2,))), ()), bare)
        self.assertEqual(len(set(oracle.instances(table, 1, 0))), 3)
        self.assertIn(clash(table), oracle.clashes(table))

    def test_instances_that_become_equal(self):
        """Different instances may become equal when the arguments of a super are put into them: then they are one."""
        bare, plain, wide = ((), (), ()), (("=",), (), ()), (("=", "="), (), ())
        low = (("=",), ((1, "a"), (1, (3,))), ())
        table = (((), ((2, (3,)),), ()), plain, low, bare)
        self.assertEqual(oracle.instances(table, 0, 1), [(1, (3,))] * 2)
        for value in (clash(table), fault(table)[1]):
            self.assertIn(value, [(2, 1, (1, "a"), (1, (3,))), (2, 1, (1, (3,)), (1, "a"))])
        # Another argument leaves them different, in both classes.
        table = (((), ((2, (0,)),), ()), plain, low, bare)
        self.assertIn(clash(table), oracle.clashes(table))
        self.assertEqual({one[0] for one in oracle.clashes(table)}, {0, 2})
        # Two of three become equal, one by one super, one by the other.
        table = (((), ((3, (4,), (4,)), (2, (4,), (0,))), ()), wide, (("=", "="), ((1, "a", "b"),), ()),
                 (("=", "="), ((2, "b", "a"), (1, "a", "b")), ()), bare)
        self.assertEqual(len(set(oracle.instances(table, 0, 1))), 2)
        self.assertIn(clash(table), oracle.clashes(table))
        # Equal again two classes further down.
        table = (((), ((1, (4,)),), ()), (("=",), ((2, "a"),), ()), (("=",), ((3, "a"), (3, (4,))), ()), (("=",), (), ()), bare)
        self.assertIn(clash(table), oracle.clashes(table))
        self.assertNotEqual(clash(table)[0], 0)

    def test_drawn_tables_whose_instances_become_equal(self):
        several = 0
        for table in samples.merging(60):
            some = oracle.clashes(table)
            found = self.steady(clash, table)
            self.assertIn(found, some, table)
            self.assertNotEqual(found[2], found[3])
            value = self.steady(fault, table)
            self.assertTrue(oracle.fault_ok(table, value), (table, value))
            several += value[0] == "clash"
            self.assertTrue(oracle.fault_ok(table, self.fails(Unsound, above, table, "x", 0).fault))
        self.assertGreater(several, 20)

    def test_double_name_by_hand(self):
        self.same(double_name(samples.NAME), (2, 3, 0, 1))
        # Two classes that have no class below both may use one name.
        self.assertIsNone(double_name((((), (), ((1, "get", (0,)),)), ((), (), ((1, "get", (0,)),)))))
        self.assertIsNone(double_name(()))

    def test_clash_also_where_there_are_obstacles(self):
        self.assertIn(clash(samples.OBSTACLE_AND_MORE), oracle.clashes(samples.OBSTACLE_AND_MORE))
        self.assertIn(double_name(samples.OBSTACLE_AND_MORE), oracle.double_names(samples.OBSTACLE_AND_MORE))

    def test_tables(self):
        for table in samples.TABLES:
            if not oracle.in_order(table):
                continue
            several, names = oracle.clashes(table), oracle.double_names(table)
            found, double = self.steady(clash, table), self.steady(double_name, table)
            if several:
                self.assertIn(found, several)
                self.assertTrue(isinstance(found, tuple) and all(oracle.whole(one) for one in found[:2]), found)
            else:
                self.assertIsNone(found, table)
            if names:
                self.assertIn(double, names)
                self.assertTrue(isinstance(double, tuple) and all(oracle.whole(one) for one in double), double)
            else:
                self.assertIsNone(double, table)

    def test_tables_that_are_not_in_order(self):
        for table in samples.DRAWN["ring"] + [samples.RING, samples.SELF_RING]:
            self.fails(NotInOrder, clash, table)
            self.fails(NotInOrder, double_name, table)

    def test_errors(self):
        self.refuses_tables(clash)
        self.refuses_tables(double_name)


class Fault(Case):
    def test_example(self):
        self.same([fault(EXAMPLE), fault((((), ((0,),), ()),))], [None, ("ring", [0])])

    def test_each_form(self):
        self.same(fault(samples.SELF_RING), ("ring", [1]))
        self.assertEqual(sorted(fault(samples.RING)[1]), [0, 1, 2])
        self.same(fault(samples.OBSTACLE), ("obstacle", 1, 0, ("super", 0, (0,))))
        self.same(fault(samples.MEMBER_OBSTACLE), ("obstacle", 0, 0, ("member", 1, ())))
        self.assertEqual(fault(samples.CLASH)[0], "clash")
        self.same(fault(samples.NAME), ("name", (2, 3, 0, 1)))

    def test_the_first_form_of_several(self):
        self.assertEqual(fault(samples.RING_AND_MORE)[0], "ring")
        self.assertEqual(fault(samples.OBSTACLE_AND_MORE)[0], "obstacle")
        self.assertEqual(fault(samples.CLASH_AND_NAME)[0], "clash")

    def test_a_parameter_of_each_class(self):
        """An obstacle of the last parameter of the last class alone."""
        table = ((("+", "-"), (), ()), (("+", "+"), ((0, "a", "b"),), ()))
        self.same(fault(table), ("obstacle", 1, 1, ("super", 0, (1,))))

    def test_tables(self):
        for table in samples.TABLES:
            found = self.steady(fault, table)
            self.assertTrue(oracle.fault_ok(table, found), (table, found))

    def test_forms_of_the_values(self):
        for table in samples.OTHERS:
            found = fault(table)
            self.assertIs(type(found), tuple)
            if found[0] == "ring":
                self.same(found, ("ring", [int(one) for one in found[1]]))
            elif found[0] == "obstacle":
                self.assertIn(repr(found), [repr(("obstacle",) + one) for one in oracle.table_obstacles(table)])
            else:
                other = oracle.clashes(table) if found[0] == "clash" else oracle.double_names(table)
                self.assertIn(repr(found), [repr((found[0], one)) for one in other])

    def test_sound_tables(self):
        for table in samples.SOUND:
            self.assertIsNone(fault(table), table)

    def test_errors(self):
        self.refuses_tables(fault)


if __name__ == "__main__":
    unittest.main()
