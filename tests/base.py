"""What the test cases share."""

import copy
import itertools
import unittest

from kindsunder import errors, wrongs
from tests import oracle, oracle_more, samples


def lists_in(value):
    """All lists in a value of lists and tuples, itself included."""
    found = [value] if isinstance(value, list) else []
    for one in value if isinstance(value, (list, tuple)) else ():
        found += lists_in(one)
    return found


def same_kinds(one, two):
    """True if two values are equal and of the same kinds throughout, so that True is not 1 and no list a tuple."""
    if type(one) is not type(two):
        return False
    if isinstance(one, (list, tuple)):
        return len(one) == len(two) and all(map(same_kinds, one, two))
    return one == two


class Case(unittest.TestCase):
    def same(self, one, two, why=None):
        """Equal, and of the same kinds throughout."""
        self.assertTrue(same_kinds(one, two), f"{one!r} is not {two!r} ({why!r})")

    def fails(self, error, function, *arguments):
        """The call raises just this class of error; returns the error."""
        with self.assertRaises(errors.KindError, msg=repr((function.__name__, arguments))) as caught:
            function(*arguments)
        self.assertIs(type(caught.exception), error, (function.__name__, arguments))
        return caught.exception

    def fails_in_order(self, function, good, faults):
        """For all sets of faults (error, index, bad argument) together the first one is told."""
        function(*good)
        for many in range(1, len(faults) + 1):
            for some in itertools.combinations(faults, many):
                arguments = list(good)
                for error, index, bad in reversed(some):
                    arguments[index] = bad
                self.fails(some[0][0], function, *arguments)

    def steady(self, function, *arguments):
        """The result; it is the same again, with new lists, and the arguments stay what they are."""
        before = copy.deepcopy(arguments)
        first = function(*arguments)
        kept = copy.deepcopy(first)
        for one in lists_in(first):
            for other in lists_in(arguments):
                self.assertIsNot(one, other, "a list of the arguments is returned")
            one.append("changed")
        second = function(*arguments)
        self.same(kept, second, (function.__name__, arguments))
        third = function(*copy.deepcopy(before))
        self.same(kept, third, (function.__name__, arguments))
        every = lists_in(first) + lists_in(second) + lists_in(third)
        self.assertEqual(len(every), len({id(one) for one in every}), "a list is returned twice")
        self.same(arguments, before, "an argument is modified")
        return second

    def refuses_tables(self, function, *rest):
        """InvalidTable for values that are not tables, whatever the other arguments are."""
        for value in samples.ODD:
            if not oracle.table_ok(value):
                self.fails(errors.InvalidTable, function, value, *rest)
                self.fails(errors.InvalidTable, function, value, *[None for _ in rest])

    def refuses_types(self, function, table, index, *good):
        """InvalidType for values that are not types that may be passed, at an index of the arguments behind the table."""
        for value in samples.ODD + bad_types(table):
            arguments = list(good)
            arguments[index] = value
            if oracle.passable(table, value):
                function(table, *arguments)
            else:
                self.fails(errors.InvalidType, function, table, *arguments)

    def refuses_classes(self, function, good, index):
        """InvalidClass for values at this index that are not the number of a class."""
        table = good[0]
        for value in samples.ODD + [len(table), len(table) + 1, -len(table), "0", (0,), [0]]:
            arguments = list(good)
            arguments[index] = value
            if oracle.whole(value) and 0 <= value < len(table):
                function(*arguments)
            else:
                self.fails(errors.InvalidClass, function, *arguments)

    def refuses(self, error, function, good, index, fine, values):
        """The error for each value at this index of the arguments that is not fine; no error for those that are."""
        for value in values:
            arguments = list(good)
            arguments[index] = value
            if fine(value):
                function(*arguments)
            else:
                self.fails(error, function, *arguments)

    def refuses_bounds(self, function, good, index):
        """InvalidBounds for values at this index that are not bounds."""
        table = good[0]
        self.refuses(wrongs.InvalidBounds, function, good, index, lambda value: oracle_more.bounds_ok(table, value), samples.ODD + [
            (), ((), (), ()), [(), ()], ([], ()), ((), []), (((3,), (2,)), ()), ((), ((2,), (2,))), (((2,), (0, (2,))), ()), (("a",), ()),
            ((), ((0, "a"),)), (((True,),), ()), (((4,),), ()), (((0,),), ()), (((2,), None), ()), ((2,), ()), (((2,),), ()), ((), ((2,), (3,)))])

    def refuses_closed(self, function, good, index):
        """InvalidType for values at this index that are not closed types of the table."""
        table = good[0]
        self.refuses(errors.InvalidType, function, good, index, lambda value: oracle_more.closed_ok(table, value), samples.ODD + [
            (), "a", "x", (0, "a"), (0, (0, "b")), (2, (2,)), (0,), (9,), (True,), (0, (True,)), [2], (0, [2]), ((2,),), (0, (2,)), (3,)])

    def refuses_numbers(self, function, good, index, most):
        """InvalidNumber for values at this index that are not integers from 0 to the greatest one."""
        self.refuses(errors.InvalidNumber, function, good, index, lambda value: oracle.whole(value) and 0 <= value <= most, samples.ODD + [
            (), 0, most, most + 1, -1, "0", [1], (1,), most // 2])

    def needs_sound(self, function, *rest):
        """Unsound, with a right fault of the first form, for each table with a fault, whatever else is wrong."""
        for table in samples.OTHERS:
            for arguments in (rest, [None for _ in rest]):
                error = self.fails(errors.Unsound, function, table, *arguments)
                self.assertTrue(oracle.fault_ok(table, error.fault), (table, error.fault))
        error = self.fails(errors.Unsound, function, samples.RING, *rest)
        error.fault[1].append("changed")
        error = self.fails(errors.Unsound, function, samples.RING, *rest)
        self.assertTrue(oracle.fault_ok(samples.RING, error.fault), error.fault)

    def needs_tame(self, function, *rest):
        """NotTame for each sound table that is not tame, whatever else is wrong."""
        for table in samples.WILDS:
            self.fails(errors.NotTame, function, table, *rest)
            self.fails(errors.NotTame, function, table, *[None for _ in rest])


def bad_types(table):
    """Values that are nearly types of the table, or too large ones, and some that are types."""
    counts = oracle.counts_of(table)
    found = ["x", "z", "a", "A", "{", "`", "1", "", "ab", ["a"], ("a",), ("a", "b"), 0, (), [], True]
    for number, count in list(enumerate(counts)) + [(len(counts), 0), (len(counts), 1), (-1, 0), (True, 0), (False, 0)]:
        for many in range(count + 2):
            found.append((number,) + ("x",) * many)
            found.append([number] + ["x"] * many)
            found.append((number,) + (None,) * many)
            found.append((number,) + (["x"],) * many)
            found.append((str(number),) + ("x",) * many)
    for number, count in enumerate(counts):
        if count:
            for levels in (5, 6, 7, 12, 100):
                deep = "x"
                for _ in range(levels):
                    deep = (number,) + (deep,) + ("x",) * (count - 1)
                found.append(deep)
            for odd in (None, True, 0, "xy", "", [], ("x",), ["x"], (number,), (len(counts),), [number, "x"]):
                deep = odd
                for _ in range(3):
                    deep = (number,) + ("x",) * (count - 1) + (deep,)
                    found.append(deep)
    return found + sized_types(counts)


def sized_types(counts):
    """Types with 24 to 27 parts, where there is a class with two parameters."""
    if 2 not in counts:
        return []
    number = counts.index(2)
    found = []
    for many in (24, 25, 26, 27):
        found.append(with_parts(counts, number, many))
    return [one for one in found if one is not None]


def with_parts(counts, number, many, letter="x"):
    """A type with so many parts and a small depth, of a class with two parameters, or None."""
    if many == 1:
        return letter
    if many == 2:
        return (counts.index(1), letter) if 1 in counts else None
    low = (many - 1) // 2
    for left in (low, low + 1, low - 1):
        one, two = [with_parts(counts, number, size, letter) for size in (left, many - 1 - left)]
        if one is not None and two is not None:
            return (number, one, two)
    return None
