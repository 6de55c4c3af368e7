"""kindsunder.signs: uses, best_signs, with_best, reason (points 3, 8 and 20)."""

import itertools
import unittest

from kindsunder.deciding import is_under
from kindsunder.errors import InvalidClass, InvalidParameter, InvalidSign, InvalidTable
from kindsunder.growth import levels
from kindsunder.signs import best_signs, reason, uses, with_best
from kindsunder.sound import clash, fault, obstacles
from kindsunder.tables import is_table
from tests import drawn, oracle, oracle_more, samples
from tests.base import Case

EXAMPLE, RICH = samples.EXAMPLE, samples.RICH
BARE = ((), (), ())
# A ring of supers (and so no order) that uses the parameters both ways by one "put"; with signs that do not count.
RINGS = ((("*",), ((1, "a"),), ()), (("*",), ((2, "a"),), ()), (("*",), ((0, "a"),), ((0, "put", "a"),)))
# Members that use parameters through other classes: class 1 in class 0 turned around, class 2 both ways.
THROUGH = (
    (("+",), (), ((0, "get", (1, "a")),)),
    (("+",), (), ((0, "put", "a"),)),
    (("+",), (), ((0, "get", (0, "a")), (1, "put", (0, (1, "a"))))),
    (("+", "+"), ((2, "a"),), ((3, "get", (4, "b")),)),
    (("+",), (), ()))


def uses_of(table):
    """All tuples that may be a use of the table."""
    return [(number, at, way) for number, row in enumerate(table) for at in range(len(row[0])) for way in "+-"]


class Uses(Case):
    def test_example(self):
        self.same([uses(EXAMPLE), best_signs(EXAMPLE), with_best(EXAMPLE) == EXAMPLE],
                  [[(0, 0, "+"), (1, 0, "+"), (1, 0, "-")], (("+",), ("=",), (), ()), True])

    def test_rings_of_supers(self):
        self.same(uses(RINGS), [(0, 0, "-"), (1, 0, "-"), (2, 0, "-")])
        self.same(best_signs(RINGS), (("-",),) * 3)
        silent = tuple([row[:2] + ((),) for row in RINGS])
        self.same([uses(silent), best_signs(silent)], [[], (("*",),) * 3])

    def test_members_through_other_classes(self):
        self.same(uses(THROUGH), [(0, 0, "-"), (1, 0, "-"), (2, 0, "-"), (3, 0, "-")])
        both = THROUGH[:2] + ((("+",), (), ((0, "get", (0, "a")), (1, "get", (0, (1, "a"))))),) + THROUGH[3:]
        self.same(best_signs(both), (("-",), ("-",), ("=",), ("=", "*"), ("*",)))
        self.same(best_signs(THROUGH), (("-",), ("-",), ("-",), ("-", "*"), ("*",)))

    def test_each_use_of_a_member(self):
        for use, wanted in (("get", "+"), ("put", "-"), ("both", "=")):
            self.same(best_signs(((("*",), (), ((0, use, "a"),)),)), ((wanted,),))

    def test_a_class_within_itself(self):
        """Nothing starts here: the use would need itself."""
        self.same(uses(((("+",), (), ((0, "get", (0, "a")),)),)), [])
        self.same(uses(((("+",), (), ((0, "put", (0, "a")), (1, "get", "a"))),)), [(0, 0, "+"), (0, 0, "-")])
        self.same(uses(((("+",), ((0, (0, "a")),), ()),)), [])

    def test_the_signs_do_not_count(self):
        for table in samples.TABLES[::3]:
            for sign in "+-=*":
                other = tuple([((sign,) * len(row[0]),) + row[1:] for row in table])
                self.same(uses(other), uses(table))
                self.same(with_best(other), with_best(table))

    def test_tables(self):
        for table in samples.TABLES:
            self.same(self.steady(uses, table), oracle_more.uses(table))
            self.same(self.steady(best_signs, table), oracle_more.best_signs(table))
            best = self.steady(with_best, table)
            self.same(best, oracle_more.with_signs(table, oracle_more.best_signs(table)))
            self.assertTrue(is_table(best))
            self.same(with_best(best), best)

    def test_all_signs_are_best_ones_somewhere(self):
        found = {sign for table in samples.TABLES for row in best_signs(table) for sign in row}
        self.assertEqual(found, set("+-=*"))

    def test_best_signs_have_no_obstacles(self):
        for table in samples.TABLES:
            best = with_best(table)
            for number, row in enumerate(best):
                for at, sign in enumerate(row[0]):
                    self.same(obstacles(best, number, at, sign), [])

    def test_best_signs_are_the_least(self):
        """All other signs without obstacles allow the best ones."""
        looked = 0
        for table in samples.TABLES:
            counts = oracle.counts_of(table)
            if sum(counts) > 4:
                continue
            best = best_signs(table)
            for signs in itertools.product("+-=*", repeat=sum(counts)):
                rest = list(signs)
                other = tuple([tuple([rest.pop() for _ in range(count)]) for count in counts])
                if not oracle.table_obstacles(oracle_more.with_signs(table, other)):
                    looked += 1
                    for row, one in zip(other, best):
                        self.assertTrue(all(map(oracle.allows, row, one)), (table, other))
        self.assertGreater(looked, 300)

    def test_sound_tables_stay_sound_and_what_is_under_stays_under(self):
        for table in samples.SOUND:
            best = with_best(table)
            self.assertIsNone(fault(best), table)
            self.assertEqual(levels(best), levels(table))
        for table in samples.GOOD:
            for s, t in samples.pairs_of(table, 12, 61):
                if is_under(table, s, t):
                    self.assertTrue(is_under(with_best(table), s, t), (table, s, t))

    def test_obstacles_alone_go(self):
        for table in samples.DRAWN["obstacle"]:
            best = with_best(table)
            self.assertNotIn((fault(best) or ("",))[0], ("ring", "obstacle"))
            self.assertEqual(clash(best) is None, clash(table) is None)

    def test_the_empty_table(self):
        self.same([uses(()), best_signs(()), with_best(())], [[], (), ()])

    def test_errors(self):
        for function in (uses, best_signs, with_best):
            self.refuses_tables(function)


class Reason(Case):
    def right(self, table, use):
        found = self.steady(reason, table, *use)
        self.assertIsNone(oracle_more.reason_wrong(table, *use, found), (table, use, found))
        return found

    def test_example(self):
        self.same([reason(EXAMPLE, 1, 0, "-")[-1], reason(EXAMPLE, 0, 0, "-")],
                  [(1, 0, "-", "member", 0, "-", (), ()), None])

    def test_by_hand(self):
        self.same(self.right(THROUGH, (0, 0, "-")), [
            (1, 0, "-", "member", 0, "-", (), ()), (0, 0, "-", "member", 0, "+", (0,), (0,))])
        self.same(self.right(RINGS, (1, 0, "-")), [
            (2, 0, "-", "member", 0, "-", (), ()), (1, 0, "-", "super", 0, "+", (0,), (0,))])
        self.assertIsNone(reason(RINGS, 1, 0, "+"))
        self.same(self.right(((("*",), (), ((0, "both", "a"),)),), (0, 0, "-")), [(0, 0, "-", "member", 0, "-", (), ())])
        self.same(self.right(((("*",), (), ((0, "both", "a"),)),), (0, 0, "+")), [(0, 0, "+", "member", 0, "+", (), ())])

    def test_the_outermost_parameter_first(self):
        table = (
            (("+", "+"), (), ((0, "put", "b"),)), (("+",), (), ((1, "get", "a"),)), (("+",), (), ((2, "put", (0, (1, "a"), (1, "a"))),)))
        found = self.right(table, (2, 0, "+"))
        self.same(found[-1][6], (1, 0))
        self.same([found[number][:2] for number in found[-1][7]], [(0, 1), (1, 0)])
        self.assertIsNone(reason(table, 2, 0, "-"))

    def test_only_rows_that_are_used(self):
        for table in samples.TABLES:
            for use in uses(table):
                rows = reason(table, *use)
                used = {number for row in rows for number in row[7]}
                self.assertEqual(used | {len(rows) - 1}, set(range(len(rows))), (table, use))

    def test_tables(self):
        long = 0
        for table in samples.TABLES:
            known = oracle_more.uses(table)
            for use in uses_of(table):
                if use in known:
                    long = max(long, len(self.right(table, use)))
                else:
                    self.assertIsNone(reason(table, *use), (table, use))
        self.assertGreater(long, 3)

    def test_wrong_classes(self):
        self.refuses_classes(reason, [EXAMPLE[:2], 0, 0, "+"], 1)
        self.fails(InvalidClass, reason, (), 0, 0, "+")

    def test_wrong_parameters(self):
        for table in samples.TABLES[::3]:
            for number, row in enumerate(table):
                for value in drawn.ODD + [0, 1, 2, -2, "a"]:
                    if oracle.whole(value) and 0 <= value < len(row[0]):
                        reason(table, number, value, "+")
                    else:
                        self.fails(InvalidParameter, reason, table, number, value, "+")

    def test_wrong_ways(self):
        for value in drawn.ODD + ["=", "*", "++", "-+", ("+",), ["-"], 1, "get", "super"]:
            self.fails(InvalidSign, reason, EXAMPLE, 0, 0, value)

    def test_errors(self):
        self.refuses_tables(reason, 0, 0, "+")
        self.fails_in_order(reason, [EXAMPLE, 0, 0, "+"], [
            (InvalidTable, 0, [EXAMPLE]), (InvalidClass, 1, 4), (InvalidParameter, 2, 1), (InvalidSign, 3, "=")])
        self.fails_in_order(reason, [EXAMPLE, 0, 0, "+"], [
            (InvalidClass, 1, False), (InvalidParameter, 2, False), (InvalidSign, 3, True)])


if __name__ == "__main__":
    unittest.main()
