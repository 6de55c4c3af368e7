"""kindsunder.tables: is_table, is_type, depth, text, put_in (points 4 and 5)."""

import random
import sys
import unittest

from kindsunder.errors import InvalidArguments, InvalidTable, InvalidType
from kindsunder.tables import depth, is_table, is_type, put_in, text
from tests import oracle, samples
from tests.base import Case, bad_types, sized_types, with_parts

EXAMPLE = samples.EXAMPLE
BARE = ((), (), ())
ONE = (("+",), (), ())
TWO = (("+", "-"), (), ())


def with_class(row, rest=(BARE, ONE, TWO)):
    """A table whose class 0 has no parameters, 1 has one, 2 has two, and 3 is the row."""
    return rest + (row,)


class IsTable(Case):
    def yes(self, value):
        self.assertIs(is_table(value), True, value)

    def no(self, value):
        self.assertIs(is_table(value), False, value)

    def test_example(self):
        self.same([is_table(()), is_table(((("+", "+"), (), ()), (("+",), ((0, "a", "a"),), ())))], [True, False])

    def test_tables(self):
        for table in samples.TABLES:
            self.yes(table)

    def test_odd_values(self):
        for value in samples.ODD:
            self.assertIs(is_table(value), value == () and isinstance(value, tuple), value)

    def test_number_of_classes(self):
        self.yes((BARE,) * 5)
        self.no((BARE,) * 6)

    def test_number_of_signs(self):
        self.yes((((), (), ()),))
        self.yes(((("+",), (), ()),))
        self.yes(((("+", "-"), (), ()),))
        self.no(((("+", "-", "="), (), ()),))

    def test_signs(self):
        for sign in ("+", "-", "=", "*"):
            self.yes((((sign,), (), ()),))
            self.yes(((("+", sign), (), ()),))
        for sign in ("", "+-", "+-=*", "a", "get", " ", 0, True, None, (), ("+",), ["+"], []):
            self.no((((sign,), (), ()),))
            self.no(((("+", sign), (), ()),))

    def test_signs_that_are_no_tuple(self):
        for signs in ("", "+", "+-", ["+"], [], None, 0):
            self.no(((signs, (), ()),))

    def test_number_of_supers(self):
        self.yes(with_class(((), ((0,), (1, (0,))), ())))
        self.no(with_class(((), ((0,), (0,), (0,)), ())))

    def test_number_of_members(self):
        members = tuple([(name, "get", (0,)) for name in range(4)])
        self.yes(with_class(((), (), members[:3])))
        self.no(with_class(((), (), members)))

    def test_a_class_has_three_entries(self):
        for row in ((), ((),), ((), ()), ((), (), (), ()), [(), (), ()], None, "abc", 3):
            self.no((row,))
            self.no((BARE, row))

    def test_lists_in_place_of_tuples(self):
        self.no([])
        self.no([BARE])
        self.no((((), [], ()),))
        self.no((((), (), []),))
        self.no(with_class(((), [(0,)], ())))
        self.no(with_class(((), ([0],), ())))
        self.no(with_class(((), ((1, [0]),), ())))
        self.no(with_class(((), (), [(0, "get", (0,))])))
        self.no(with_class(((), (), ([0, "get", (0,)],))))
        self.no(with_class(((), (), ((0, "get", [0]),))))
        self.no(with_class(((), (), ((0, "get", (1, [0])),))))
        self.no(with_class(((), (), ((0, "get", (1, (1, [0]))),))))

    def test_bools_in_place_of_integers(self):
        self.no(with_class(((), ((False,),), ())))
        self.no(with_class(((), ((1, (False,)),), ())))
        self.no(with_class(((), ((True, (0,)),), ())))
        self.no(with_class(((), (), ((True, "get", (0,)),))))
        self.no(with_class(((), (), ((0, "get", (False,)),))))
        self.no(with_class(((), (), ((0, "get", (1, (1, (False,)))),))))

    def test_a_super_is_no_variable(self):
        self.no(with_class((("+",), ("a",), ())))
        self.yes(with_class((("+",), ((1, "a"),), ())))

    def test_a_parameter_stands_once_in_a_super(self):
        self.yes(with_class((("+", "+"), ((2, "a", "b"),), ())))
        self.no(with_class((("+", "+"), ((2, "a", "a"),), ())))
        self.no(with_class((("+", "+"), ((2, "b", "b"),), ())))
        self.no(with_class((("+", "+"), ((2, "a", (1, "a")),), ())))
        self.no(with_class((("+", "+"), ((0,), (2, (1, "b"), "b")), ())))
        self.yes(with_class((("+", "+"), ((2, "a", (0,)), (2, "a", "b")), ())))

    def test_a_parameter_may_stand_twice_in_a_member(self):
        self.yes(with_class((("+",), (), ((0, "get", (2, "a", "a")),))))
        self.yes(with_class((("+", "-"), (), ((0, "get", (2, "b", (1, "b"))), (1, "put", "b")))))

    def test_no_other_variables(self):
        for letter in ("b", "c", "x", "z", "A", "", "ab"):
            self.no(with_class((("+",), ((1, letter),), ())))
            self.no(with_class((("+",), (), ((0, "get", letter),))))
            self.no(with_class((("+",), (), ((0, "get", (2, "a", (1, letter))),))))
        for letter in ("a", "b"):
            self.no(with_class(((), ((1, letter),), ())))
            self.no(with_class(((), (), ((0, "get", letter),))))
        self.no(with_class((("+", "+"), ((1, "c"),), ())))
        self.yes(with_class((("+", "+"), ((1, "b"),), ((0, "get", "b"),))))

    def test_names_of_members(self):
        for name in (0, 5, 9):
            self.yes(with_class(((), (), ((name, "get", (0,)),))))
        for name in (-1, 10, True, False, "0", None, (0,), [0]):
            self.no(with_class(((), (), ((name, "get", (0,)),))))

    def test_equal_names(self):
        self.no(with_class(((), (), ((1, "get", (0,)), (1, "put", (0,))))))
        self.no(with_class(((), (), ((1, "get", (0,)), (2, "get", (0,)), (1, "get", (0,))))))
        self.yes(with_class(((), (), ((2, "get", (0,)), (1, "get", (0,)), (0, "get", (0,))))))
        self.yes((((), (), ((1, "get", (0,)),)), ((), (), ((1, "get", (0,)),))))

    def test_uses(self):
        for use in ("get", "put", "both"):
            self.yes(with_class(((), (), ((0, use, (0,)),))))
        for use in ("", "Get", "set", "+", "g", None, 0, True, ("get",), ["get"], []):
            self.no(with_class(((), (), ((0, use, (0,)),))))

    def test_a_member_has_three_entries(self):
        for member in ((), (0, "get"), (0, "get", (0,), 0), None, "get", 0):
            self.no(with_class(((), (), (member,))))

    def test_depth(self):
        deep = (1, (1, (0,)))
        self.yes(with_class(((), (deep,), ((0, "get", deep),))))
        self.no(with_class(((), ((1, deep),), ())))
        self.no(with_class(((), (), ((0, "get", (1, deep)),))))
        self.yes(with_class((("+",), ((1, (1, (1, "a"))),), ((0, "get", (1, (1, (1, "a")))),))))
        self.no(with_class((("+",), ((1, (1, (1, (1, "a")))),), ())))
        self.no(with_class((("+",), (), ((0, "get", (1, (1, (1, (1, "a"))))),))))

    def test_parts(self):
        five, six = (2, (2, (0,), (0,)), (0,)), (2, (2, (0,), (0,)), (1, (0,)))
        self.yes(with_class(((), (five,), ((0, "get", five),))))
        self.no(with_class(((), (six,), ())))
        self.no(with_class(((), (), ((0, "get", six),))))
        self.yes(with_class((("+",), (), ((0, "get", (2, (2, "a", "a"), "a")),))))
        self.no(with_class((("+",), (), ((0, "get", (2, (2, "a", "a"), (1, "a"))),))))

    def test_numbers_of_classes_and_arguments(self):
        for bad in ((4,), (-1,), (9,), (0, (0,)), (1,), (1, (0,), (0,)), (2, (0,)), (2, (0,), (0,), (0,)), (), ("0",), (None,)):
            self.no(with_class(((), (bad,), ())))
            self.no(with_class(((), ((1, bad),), ())))
            self.no(with_class(((), (), ((0, "get", bad),))))
            self.no(with_class(((), (), ((0, "get", (2, (0,), bad)),))))
        self.yes((((), ((1,),), ()), ((), ((1,),), ())))
        self.yes(with_class((("+",), ((3, (3, "a")),), ((0, "get", (3, "a")),))))

    def test_changed_tables(self):
        """Each table with an odd value, or a part of another place, somewhere in it."""
        rng = random.Random(4)
        spare = samples.ODD + [(0,), (1,), (1, "a"), (2, "a", "b"), "a", "b", "get", "put", "+", "-", "=", "*", 0, 1, 9]
        for table in samples.TABLES * 4:
            value = changed(rng, table, rng.choice(spare))
            self.assertIs(is_table(value), oracle.table_ok(value), value)

    def test_deep_values(self):
        deep = (0,)
        for _ in range(99):
            deep = (1, deep)
        self.no(with_class(((), (deep,), ())))
        self.no(with_class(((), (), ((0, "get", deep),))))
        self.no(deep)


def changed(rng, value, spare):
    """The value with one entry, at any depth, replaced, taken out, doubled or made a list of."""
    if not isinstance(value, tuple) or not value or rng.random() < 0.15:
        return list(value) if isinstance(value, tuple) and rng.random() < 0.1 else spare
    at = rng.randrange(len(value))
    if rng.random() < 0.1:
        return value[:at] + value[at + 1:]
    if rng.random() < 0.1:
        return value[:at] + value[at:at + 1] + value[at:]
    return value[:at] + (changed(rng, value[at], spare),) + value[at + 1:]


class IsType(Case):
    def test_example(self):
        self.same([is_type(EXAMPLE, (1, (3,))), is_type(EXAMPLE, (2, (3,)))], [True, False])

    def test_variables(self):
        for table in ((), EXAMPLE, samples.RING):
            for letter in "abcdefghijklmnopqrstuvwxyz":
                self.assertIs(is_type(table, letter), True)
            for word in ("", "A", "Z", "aa", "ab", "0", "_", " ", "`", "{", "a ", "+"):
                self.assertIs(is_type(table, word), False, word)

    def test_depths(self):
        for letter, most in (("x", 6), ((2,), 5)):
            deep = letter
            for levels in range(1, 10):
                deep = (levels % 2, deep)
                self.assertIs(is_type(EXAMPLE, deep), levels <= most, deep)

    def test_parts(self):
        table = (BARE, ONE, TWO)
        for many, answer in ((24, True), (25, True), (26, False), (27, False)):
            self.assertEqual(oracle.size(with_parts([0, 1, 2], 2, many)), many)
            self.assertIs(is_type(table, with_parts([0, 1, 2], 2, many)), answer)

    def test_very_many_parts(self):
        wide = (0,)
        for _ in range(30):
            wide = (2, wide, wide)
        self.assertIs(is_type((BARE, ONE, TWO), wide), False)

    def test_values(self):
        for table in (EXAMPLE, samples.RICH, samples.RING, samples.WILD, ()):
            for value in samples.ODD + bad_types(table):
                self.assertIs(is_type(table, value), oracle.passable(table, value), (table, value))

    def test_types(self):
        for table in samples.TABLES:
            for one in samples.types_of(table, 12):
                self.assertIs(is_type(table, one), True)
                self.assertIs(is_type(table, list(one)), False)

    def test_changed_types(self):
        rng = random.Random(5)
        for table in samples.TABLES:
            for one in samples.types_of(table, 12, 2):
                value = changed(rng, one, rng.choice(samples.ODD + ["a", "c", (0,), (1, "x"), 0, 1, True]))
                self.assertIs(is_type(table, value), oracle.passable(table, value), (table, value))

    def test_values_that_are_no_table(self):
        self.refuses_tables(is_type, "a")


def lines_run(function, *arguments):
    """How many lines a call runs."""
    many = 0

    def count(frame, event, value):
        nonlocal many
        many += event == "line"
        return count

    before = sys.gettrace()
    sys.settrace(count)
    try:
        function(*arguments)
    finally:
        sys.settrace(before)
    return many


class DepthAndText(Case):
    def test_example(self):
        self.same([depth(EXAMPLE, (1, (0, "x"))), text(EXAMPLE, (1, (0, "x")))], [2, "1(0(x))"])

    def test_by_hand(self):
        table = (BARE, ONE, TWO)
        for one, many, words in (
                ("a", 0, "a"), ("z", 0, "z"), ((0,), 1, "0"), ((1, "a"), 1, "1(a)"), ((1, (0,)), 2, "1(0)"),
                ((2, "a", (0,)), 2, "2(a,0)"), ((2, (0,), "x"), 2, "2(0,x)"), ((2, "x", "y"), 1, "2(x,y)"),
                ((2, "a", (1, (0,))), 3, "2(a,1(0))"), ((2, (1, (1, "a")), (2, "b", "c")), 3, "2(1(1(a)),2(b,c))")):
            self.same((depth(table, one), text(table, one)), (many, words))

    def test_types(self):
        for table in samples.TABLES:
            for one in samples.types_of(table, 12):
                self.same(self.steady(depth, table, one), oracle.depth(one))
                self.same(self.steady(text, table, one), oracle.text(one))

    def test_large_tables_take_little_work(self):
        """Work is counted in lines that are run, which, unlike time, are the same on each machine."""
        row = (((0, "a", (1, "b", (2,))), (1, (2,), (0, "a", "b"))),
               ((0, "get", (0, (1, "a", "b"), "a")), (1, "put", (1, "a", (0, "b", "a"))), (2, "both", (0, (0, "a", "b"), "b"))))
        table = ((("+", "-"),) + row,) * 2 + (BARE,) + ((("=", "*"),) + row,) * 2
        shape = (0, (1, "a", "b"), "a")
        self.same([depth(table, shape), text(table, shape)], [2, "0(1(a,b),a)"])
        for function in (depth, text):
            self.assertLess(lines_run(function, table, shape), 1200)
        # What is no table, or no type of it, is found out at the end of the table at the latest.
        for value in (table[:4] + ((("=", "*"), row[0], row[1][:2] + ((2, "both", (0, (0, "a", "b"), "c")),)),), table + (BARE,)):
            self.assertLess(lines_run(is_table, value), 1200)

    def test_errors(self):
        for function in (depth, text):
            self.refuses_tables(function, "a")
            self.fails_in_order(function, [EXAMPLE, "a"], [(InvalidTable, 0, None), (InvalidType, 1, (9,))])
            for table in (EXAMPLE, samples.RICH, samples.RING, ()):
                self.refuses_types(function, table, 0, None)


class PutIn(Case):
    def test_example(self):
        self.same(put_in(EXAMPLE, (0, "a"), ((3,),)), (0, (3,)))

    def test_by_hand(self):
        table = (BARE, ONE, TWO)
        both = (2, "a", (2, "b", "c"))
        for shape, arguments, result in (
                ("a", (), "a"), ("a", ((0,),), (0,)), ("b", ((0,),), "b"), ("b", ((0,), (1, "x")), (1, "x")),
                ("c", ((0,), (0,)), "c"), ((0,), ((1, "a"),), (0,)), (both, (), both),
                (both, ((0,),), (2, (0,), (2, "b", "c"))), (both, ((0,), "a"), (2, (0,), (2, "a", "c"))),
                (both, ("b", "a"), (2, "b", (2, "a", "c"))), (both, ("b",), (2, "b", (2, "b", "c"))),
                (both, ((2, "a", "b"), (1, "a")), (2, (2, "a", "b"), (2, (1, "a"), "c"))),
                ((1, (1, "a")), ((1, (1, "a")),), (1, (1, (1, (1, "a")))))):
            self.same(put_in(table, shape, arguments), result)

    def test_types(self):
        rng = random.Random(6)
        for table in samples.TABLES:
            types = samples.types_of(table, 10, 3, "ab")
            for shape in types:
                arguments = tuple([rng.choice(types) for _ in range(rng.randrange(3))])
                self.same(self.steady(put_in, table, shape, arguments), oracle.put(shape, arguments))

    def test_results_may_be_greater(self):
        deep = (1, (1, (1, (1, (1, (1, "a"))))))
        self.same(put_in((BARE, ONE, TWO), deep, (deep,)), oracle.put(deep, (deep,)))
        wide = with_parts([0, 1, 2], 2, 25, "a")
        self.same(put_in((BARE, ONE, TWO), wide, (wide,)), oracle.put(wide, (wide,)))

    def test_wrong_arguments(self):
        for table in (EXAMPLE, samples.RICH, samples.RING, ()):
            for value in samples.ODD + bad_types(table):
                good = isinstance(value, tuple) and len(value) <= 2 and all(oracle.passable(table, one) for one in value)
                if good:
                    self.same(put_in(table, "a", value), oracle.put("a", value))
                else:
                    self.fails(InvalidArguments, put_in, table, "a", value)
                for arguments in ((value,), ("x", value), (value, "x")):
                    if oracle.passable(table, value):
                        self.same(put_in(table, "b", arguments), oracle.put("b", arguments))
                    else:
                        self.fails(InvalidArguments, put_in, table, "b", arguments)
            self.fails(InvalidArguments, put_in, table, "a", ("x", "x", "x"))
            self.fails(InvalidArguments, put_in, table, "a", ["x"])
            self.fails(InvalidArguments, put_in, table, "a", "x")
            self.same(put_in(table, "a", ()), "a")

    def test_errors(self):
        self.refuses_tables(put_in, "a", ())
        self.refuses_types(put_in, EXAMPLE, 0, None, ())
        self.refuses_types(put_in, samples.RICH, 0, None, ("x", "y"))
        self.fails_in_order(put_in, [EXAMPLE, "a", ("x",)], [
            (InvalidTable, 0, [EXAMPLE]), (InvalidType, 1, (2, "a")), (InvalidArguments, 2, ((2, "a"),))])


class Sizes(Case):
    def test_the_samples_of_sizes_are_right(self):
        self.assertEqual([oracle.size(one) for one in sized_types([0, 1, 2])], [24, 25, 26, 27])
        self.assertTrue(all(oracle.depth(one) <= 6 for one in sized_types([0, 1, 2])))


if __name__ == "__main__":
    unittest.main()
