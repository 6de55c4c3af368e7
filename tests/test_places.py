"""kindsunder.places: product, allows, parts, sign_at (point 6)."""

import unittest

from kindsunder.errors import InvalidPlace, InvalidSign, InvalidTable, InvalidType
from kindsunder.places import allows, parts, product, sign_at
from tests import oracle, samples
from tests.base import Case, with_parts

EXAMPLE = samples.EXAMPLE
PRODUCTS = {
    "++": "+", "+-": "-", "+=": "=", "+*": "*", "-+": "-", "--": "+", "-=": "=", "-*": "*",
    "=+": "=", "=-": "=", "==": "=", "=*": "*", "*+": "*", "*-": "*", "*=": "*", "**": "*"}
ALLOWED = ("++", "+*", "--", "-*", "=+", "=-", "==", "=*", "**")
FOUR = (((), (), ()), (("+", "-"), (), ()), (("=", "*"), (), ()), (("-",), (), ()))


class Signs(Case):
    def test_example(self):
        self.same([product("-", "-"), product("=", "*"), allows("-", "+")], ["+", "*", False])

    def test_all_pairs(self):
        for first in "+-=*":
            for second in "+-=*":
                self.same(product(first, second), PRODUCTS[first + second], first + second)
                self.assertIs(allows(first, second), first + second in ALLOWED, first + second)

    def test_values_that_are_no_signs(self):
        for value in samples.ODD + ["++", "+-=*", "-=", ("+",), ["+"], ["+", "-"], "get"]:
            for function in (product, allows):
                self.fails(InvalidSign, function, value, "+")
                self.fails(InvalidSign, function, "*", value)
                self.fails(InvalidSign, function, value, value)


class Places(Case):
    def test_examples(self):
        self.same(parts(EXAMPLE, (1, (3,))), [((), (1, (3,))), ((0,), (3,))])
        self.same(sign_at(EXAMPLE, (1, (0, "x")), (0, 0)), "=")

    def test_parts_by_hand(self):
        shape = (1, (3, (0,)), (2, "a", "x"))
        self.same(parts(FOUR, shape), [
            ((), shape), ((0,), (3, (0,))), ((0, 0), (0,)), ((1,), (2, "a", "x")), ((1, 0), "a"), ((1, 1), "x")])
        self.same(parts(FOUR, "q"), [((), "q")])
        self.same(parts((), "q"), [((), "q")])
        self.same(parts(FOUR, (0,)), [((), (0,))])

    def test_sign_at_by_hand(self):
        shape = (1, (1, "a", (3, "b")), (1, (2, "c", "d"), (3, (3, "e"))))
        for place, sign in (
                ((), "+"), ((0,), "+"), ((0, 0), "+"), ((0, 1), "-"), ((0, 1, 0), "+"), ((1,), "-"), ((1, 0), "-"),
                ((1, 0, 0), "="), ((1, 0, 1), "*"), ((1, 1), "+"), ((1, 1, 0), "-"), ((1, 1, 0, 0), "+")):
            self.same(sign_at(FOUR, shape, place), sign, place)
        self.same(sign_at(FOUR, (2, (2, "a", "a"), (2, "a", "a")), (0, 1)), "*")
        self.same(sign_at(FOUR, (2, (2, "a", "a"), (2, "a", "a")), (1, 0)), "*")
        self.same(sign_at((), "q", ()), "+")

    def test_types(self):
        for table in samples.TABLES:
            for shape in samples.types_of(table, 12, 7):
                found = self.steady(parts, table, shape)
                self.same(found, [(place, oracle.part_at(shape, place)) for place in sorted(oracle.places(shape))])
                for place, _ in found:
                    self.same(self.steady(sign_at, table, shape, place), oracle.sign_at(table, shape, place))

    def test_greatest_types(self):
        deep = (3, (3, (3, (3, (3, (3, "x"))))))
        self.same([place for place, _ in parts(FOUR, deep)], [(0,) * length for length in range(7)])
        self.same([sign_at(FOUR, deep, (0,) * length) for length in range(7)], ["+", "-", "+", "-", "+", "-", "+"])
        wide = with_parts([0, 2, 2, 1], 1, 25)
        self.same(len(parts(FOUR, wide)), 25)
        self.same(parts(FOUR, wide), sorted(parts(FOUR, wide), key=lambda one: one[0]))

    def test_wrong_places(self):
        for table, shape in ((EXAMPLE, (1, (3,))), (EXAMPLE, "x"), (FOUR, (1, (3, (0,)), "a")), (FOUR, (0,)), ((), "x")):
            right = oracle.places(shape)
            near = [place + (number,) for place in right for number in (-3, -2, -1, 0, 1, 2, 3, True, False, None, "a", "0", (), (0,))]
            near += [list(place) for place in right] + [place + place for place in right if place] + [[()], 0, (0, True), (True, 0)]
            for value in samples.ODD + near:
                whole = isinstance(value, tuple) and all(oracle.whole(one) for one in value)
                if whole and value in right:
                    self.same(sign_at(table, shape, value), oracle.sign_at(table, shape, value))
                else:
                    self.fails(InvalidPlace, sign_at, table, shape, value)

    def test_errors(self):
        self.refuses_tables(parts, "a")
        self.refuses_tables(sign_at, "a", ())
        for table in (EXAMPLE, FOUR, samples.RING, ()):
            self.refuses_types(parts, table, 0, None)
            self.refuses_types(sign_at, table, 0, None, ())
        self.fails_in_order(parts, [EXAMPLE, "a"], [(InvalidTable, 0, 0), (InvalidType, 1, (2, "a"))])
        self.fails_in_order(sign_at, [EXAMPLE, "a", ()], [
            (InvalidTable, 0, (None,)), (InvalidType, 1, (2, "a")), (InvalidPlace, 2, (0,))])


if __name__ == "__main__":
    unittest.main()
