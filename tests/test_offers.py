"""kindsunder.offers: offers (points 3, 11 and 21)."""

import unittest

from kindsunder.deciding import is_under
from kindsunder.errors import InvalidTable, InvalidType, Unsound
from kindsunder.offers import offers
from tests import oracle, oracle_more, samples
from tests.base import Case

EXAMPLE, RICH, DIAMOND = samples.EXAMPLE, samples.RICH, samples.DIAMOND


class Offers(Case):
    def test_example(self):
        self.same(offers(EXAMPLE, (1, (3,))), [(0, "get", (3,)), (1, "put", (3,))])

    def test_by_hand(self):
        self.same(offers(RICH, (4, "x")), [(0, "get", "x"), (1, "put", (2,)), (2, "both", "x"), (4, "put", "x")])
        self.same(offers(RICH, (0, "b", "a")), [(0, "get", "b"), (1, "put", "a")])
        self.same(offers(RICH, (1, (3,), (0, "y", "z"))), [(0, "get", (3,)), (1, "put", (2,)), (2, "both", (3,))])
        self.same(offers(RICH, (3,)), [(3, "get", (1, (2,), (3,)))])
        self.same(offers(RICH, (2,)), [])

    def test_names_are_ascending(self):
        """The class itself has names between those of the class above it, in another order."""
        table = ((("=",), (), ((7, "get", "a"), (2, "put", "a"), (5, "both", (0, "a")))),
                 (("=",), ((0, (1, "a")),), ((9, "get", "a"), (0, "get", (0, "a")), (6, "put", "a"))))
        self.same(self.steady(offers, table, (1, "x")), [
            (0, "get", (0, "x")), (2, "put", (1, "x")), (5, "both", (0, (1, "x"))), (6, "put", "x"), (7, "get", (1, "x")),
            (9, "get", "x")])

    def test_two_ways_to_a_class(self):
        self.same(offers(DIAMOND, (4,)), [(0, "get", (4,))])
        self.same(offers(DIAMOND, (3, "b")), [(0, "get", "b")])

    def test_variables(self):
        for table in (EXAMPLE, RICH, ()):
            for letter in "abxz":
                self.same(offers(table, letter), [])

    def test_tables(self):
        """Also tables that are sound and not tame."""
        for table in samples.SOUND:
            for one in samples.types_of(table, 10, 71):
                found = self.steady(offers, table, one)
                self.same(found, oracle_more.offers(table, one))
                names = [row[0] for row in found]
                self.assertEqual(names, sorted(set(names)))

    def test_types_under_each_other(self):
        """Point 21: what t offers is offered by each type s under it, read as a type under it, written as one over it."""
        looked = {"get": 0, "put": 0, "both": 0}
        wide = ((("+", "-"), (), ((0, "get", "a"), (1, "put", "b"), (4, "both", (2,)))), (("+", "-"), ((0, "a", "b"),), ()),
                ((), ((3,),), ()), ((), (), ()))
        for table in [wide] + samples.GOOD:
            pairs = samples.pairs_of(table, 24, 72)
            if table == wide:
                pairs += [((1, (2,), (3,)), (0, (3,), (2,))), ((0, (2,), (3,)), (0, (3,), (2,)))]
            for s, t in pairs:
                if not is_under(table, s, t):
                    continue
                own = {name: (use, inner) for name, use, inner in offers(table, s)}
                for name, use, high in offers(table, t):
                    self.assertEqual(own[name][0], use)
                    low = own[name][1]
                    looked[use] += s != t
                    if use != "put":
                        self.assertTrue(oracle.under(table, low, high), (table, s, t, name))
                    if use != "get":
                        self.assertTrue(oracle.under(table, high, low), (table, s, t, name))
        self.assertGreater(min(looked.values()), 20, looked)

    def test_greatest_types(self):
        deep = "x"
        for _ in range(5):
            deep = (0, deep)
        table = (EXAMPLE[0], (("=",), ((0, (0, "a")),), ((1, "put", (1, (1, "a"))),)))
        self.same(offers(table, (1, deep)), [(0, "get", (0, deep)), (1, "put", (1, (1, deep)))])

    def test_errors(self):
        self.refuses_tables(offers, "x")
        self.needs_sound(offers, "x")
        self.fails_in_order(offers, [EXAMPLE, "x"], [
            (InvalidTable, 0, None), (Unsound, 0, samples.OBSTACLE_WILD), (InvalidType, 1, (9,))])
        for table in (EXAMPLE, RICH, samples.WILD, ()):
            self.refuses_types(offers, table, 0, None)


if __name__ == "__main__":
    unittest.main()
