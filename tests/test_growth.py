"""kindsunder.growth: steps, growing_ring, levels (point 14), road (point 15)."""

import unittest

from kindsunder.errors import InvalidNumber, InvalidTable
from kindsunder.growth import growing_ring, levels, road, steps
from tests import oracle, samples
from tests.base import Case

EXAMPLE, GROW = samples.EXAMPLE, samples.GROW
ONE, TWO = (("+",), (), ()), (("+", "+"), (), ())


class Steps(Case):
    def test_example(self):
        self.same(steps(GROW), [(1, 0, 0, 0, False), (1, 0, 0, 0, True), (1, 0, 1, 0, True)])

    def test_plain(self):
        self.same(steps(EXAMPLE), [(1, 0, 0, 0, False)])
        self.same(steps((TWO, (("+", "+"), ((0, "b", "a"),), ()))), [(1, 0, 0, 1, False), (1, 1, 0, 0, False)])
        self.same(steps((ONE, (("+", "+"), ((0, "b"),), ()))), [(1, 1, 0, 0, False)])

    def test_growing(self):
        table = (ONE, TWO, (("+", "+"), ((1, (0, "b"), (0, "a")),), ()))
        self.same(steps(table), [
            (2, 0, 0, 0, False), (2, 0, 1, 1, True), (2, 1, 0, 0, False), (2, 1, 1, 0, True)])
        table = (ONE, (("+",), ((0, (0, (0, "a"))),), ()))
        self.same(steps(table), [(1, 0, 0, 0, False), (1, 0, 0, 0, True)])

    def test_both_at_once_from_two_supers(self):
        table = (ONE, ((), (), ()), (("+",), ((0, "a"), (0, (0, "a"))), ()))
        self.same(steps(table), [(2, 0, 0, 0, False), (2, 0, 0, 0, True)])

    def test_each_once(self):
        table = (ONE, (("+",), ((0, "a"), (0, "a")), ()))
        self.same(steps(table), [(1, 0, 0, 0, False)])

    def test_none(self):
        for table in ((), samples.RING, (ONE, TWO), samples.ROUND, (ONE, ((), ((0, (0, (1,))),), ()))):
            self.same(steps(table), [])

    def test_members_give_no_steps(self):
        self.same(steps((ONE, (("+",), (), ((0, "get", (0, (1, "a"))),)))), [])

    def test_tables(self):
        for table in samples.TABLES:
            self.same(self.steady(steps, table), oracle.steps(table), table)

    def test_errors(self):
        self.refuses_tables(steps)


class RingAndLevels(Case):
    def test_example(self):
        self.same([growing_ring(GROW)[0], levels(GROW), levels(GROW[:1])], [(1, 0, 1, 0, True), None, ((0,),)])

    def test_levels_by_hand(self):
        self.same(levels(EXAMPLE), ((0,), (0,), (), ()))
        self.same(levels(()), ())
        self.same(levels((ONE, (("+",), ((0, (0, "a")),), ()))), ((1,), (0,)))
        # Plain steps hand a level on, each growing one raises it; the greatest of several counts.
        table = (ONE, TWO, (("+", "+"), ((1, (0, "a"), "b"),), ()),
                 (("+", "+"), ((2, "b", "a"), (1, "a", (0, (0, "b")))), ()))
        self.same(levels(table), ((1,), (1, 1), (0, 0), (0, 0)))
        chain = (ONE, (("+",), ((0, (0, "a")),), ()), (("+",), ((1, (1, "a")),), ()), (("+",), ((2, "a"),), ()))
        self.same(levels(chain), ((2,), (1,), (0,), (0,)))
        self.assertIsNone(growing_ring(chain))

    def test_rings_of_plain_steps(self):
        """A ring without a growing step is no growth, though its table is not in order."""
        table = ((("+",), ((1, "a"),), ()), (("+",), ((0, "a"),), ()))
        self.same([levels(table), growing_ring(table)], [((0,), (0,)), None])
        table = (ONE, (("+",), ((2, "a"),), ()), (("+",), ((1, "a"), (0, (0, "a"))), ()))
        self.same([levels(table), growing_ring(table)], [((1,), (0,), (0,)), None])
        self.same(levels(samples.RING), ((), (), ()))

    def test_a_ring_of_one_step(self):
        self.same(growing_ring(samples.FAULTY_WILD)[0][:4], (0, 0, 0, 0))
        self.assertIsNone(levels(samples.FAULTY_WILD))

    def test_a_growing_step_within_a_longer_ring(self):
        table = ((("+",), ((1, "a"),), ()), (("+",), ((2, "a"),), ()), (("+",), ((0, (3, "a")),), ()), ONE)
        self.assertTrue(oracle.step_ring_ok(table, growing_ring(table)), growing_ring(table))
        self.assertIsNone(levels(table))

    def test_a_growing_step_that_leads_off_a_ring(self):
        """A growing step between two rings of plain steps, and one beside a ring, belong to no ring."""
        table = ((("+",), ((1, "a"),), ()), (("+",), ((0, "a"), (2, (4, "a"))), ()),
                 (("+",), ((3, "a"),), ()), (("+",), ((2, "a"),), ()), ONE)
        self.same([growing_ring(table), levels(table)], [None, ((0,), (0,), (1,), (1,), (0,))])

    def test_two_parameters(self):
        table = ((("+", "+"), ((1, "b", "a"),), ()), (("+", "+"), ((0, (2, "a"), "b"),), ()), ONE)
        self.assertTrue(oracle.step_ring_ok(table, growing_ring(table)))
        self.assertIsNone(levels(table))
        table = ((("+", "+"), ((1, "a", "b"),), ()), (("+", "+"), ((0, "b", (0, (3,), (3,))),), ()), ONE, ((), (), ()))
        self.same([growing_ring(table), levels(table)], [None, ((0, 0), (0, 0), (0,), ())])

    def test_exactly_one_of_both(self):
        for table in samples.TABLES:
            ring, found = self.steady(growing_ring, table), self.steady(levels, table)
            self.same(found, oracle.levels(table), table)
            if found is None:
                self.assertTrue(oracle.step_ring_ok(table, ring), (table, ring))
            else:
                self.assertIsNone(ring, table)

    def test_levels_keep_their_conditions(self):
        for table in samples.TABLES:
            found = levels(table)
            for low, first, high, second, growing in steps(table) if found is not None else ():
                self.assertGreaterEqual(found[high][second], found[low][first] + int(growing))

    def test_errors(self):
        self.refuses_tables(growing_ring)
        self.refuses_tables(levels)


class Road(Case):
    def test_example(self):
        self.assertIsNone(road(EXAMPLE, 3))

    def test_tame_tables(self):
        for table in samples.TABLES:
            if oracle.tame(table):
                for number in (0, 1, 2, 30):
                    self.assertIsNone(road(table, number), table)

    def test_numbers(self):
        for number in range(31):
            for table in (GROW, samples.WILD, samples.FAULTY_WILD, samples.OBSTACLE_WILD):
                found = self.steady(road, table, number)
                self.assertTrue(oracle.road_ok(table, number, found), (table, number, found))

    def test_tables(self):
        for table in samples.TABLES:
            if not oracle.tame(table):
                for number in (0, 1, 2, 5, 8, 13, 30):
                    found = self.steady(road, table, number)
                    self.assertTrue(oracle.road_ok(table, number, found), (table, number, found))

    def test_two_parameters(self):
        for table in (
                ((("+", "+"), ((1, "b", "a"),), ()), (("+", "+"), ((0, (2, "a"), "b"),), ()), ONE),
                (ONE, (("+", "+"), ((0, (1, (0, "b"), "a")),), ())),
                (ONE, (("+", "+"), ((0, (1, "b", (0, "a"))),), ())),
                (ONE, (("+", "+"), ((2, "a", "b"),), ()), (("+", "+"), ((0, "b"), (0, (1, "b", (0, "a")))), ()))):
            for number in (0, 4, 30):
                self.assertTrue(oracle.road_ok(table, number, road(table, number)), table)

    def test_parts_at_deeper_places(self):
        """The rings lead by parts of supers at the places (0, 0), (1,), (1, 0) and (0, 1)."""
        bare = ((), (), ())
        for table in (
                (ONE, (("+",), ((0, (0, (2, "a"))),), ()), (("+",), ((0, (1, (0, "a"))),), ())),
                (TWO, bare, (("+",), ((0, (1,), (3, "a")),), ()), (("+",), ((0, (1,), (2, (3, "a"))),), ())),
                (TWO, ONE, (("+", "+"), ((0, "b", (1, (3, "a"))),), ()), (("+",), ((1, (2, (1, "a"), (4,))),), ()), bare),
                (TWO, ONE, (("+", "+"), ((1, (0, "b", (3, "a"))),), ()), (("+",), ((1, (2, (1, "a"), (4,))),), ()), bare)):
            self.assertTrue(oracle.step_ring_ok(table, growing_ring(table)))
            for number in (0, 3, 10, 30):
                self.assertTrue(oracle.road_ok(table, number, road(table, number)), table)

    def test_wrong_numbers(self):
        for table in (GROW, EXAMPLE, ()):
            for value in samples.ODD + [-1, 0, 1, 30, 31, 300, "3", (3,), [3]]:
                if oracle.whole(value) and 0 <= value <= 30:
                    road(table, value)
                else:
                    self.fails(InvalidNumber, road, table, value)

    def test_errors(self):
        self.refuses_tables(road, 3)
        self.fails_in_order(road, [GROW, 3], [(InvalidTable, 0, 0), (InvalidNumber, 1, True)])
        self.fails_in_order(road, [EXAMPLE, 3], [(InvalidTable, 0, [GROW]), (InvalidNumber, 1, 31)])


if __name__ == "__main__":
    unittest.main()
