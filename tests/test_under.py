"""kindsunder.under: needs, is_derivation, is_refusal (points 12 and 13)."""

import random
import unittest

from kindsunder.errors import InvalidTable, InvalidType, Unsound
from kindsunder.under import is_derivation, is_refusal, needs
from tests import oracle, samples
from tests.base import Case

EXAMPLE = samples.EXAMPLE
# One class for each sign, and one with two parameters; 5 classes at most, so "*" stands beside "-" in the last one.
SIGNED = ((("+",), (), ()), (("-",), (), ()), (("=",), (), ()), (("*", "-"), (), ()), ((), ((2, (4,)),), ()))


def refusal_of(table, s, t):
    """A refusal by the needs alone, or None; for tame tables."""
    road = [(s, t)]
    while True:
        wanted = oracle.needs(table, *road[-1])
        if wanted is None or any([pair in road for pair in wanted]):
            return road
        under = [pair for pair in wanted if not oracle.under(table, *pair)]
        if not under:
            return None
        road.append(under[0])


def with_bools(value):
    """The value with bools in place of 0 and 1: equal for Python, and wrong."""
    if isinstance(value, tuple):
        return tuple([with_bools(one) for one in value])
    return bool(value) if value in (0, 1) else value


def bool_mutants(value):
    """The list with bools in place of integers in one entry of one row each, where that is a change."""
    found = []
    for at, row in enumerate(value):
        for side in range(len(row)):
            changed = row[:side] + (with_bools(row[side]),) + row[side + 1:]
            if repr(changed) != repr(row):
                found.append(value[:at] + [changed] + value[at + 1:])
    return found


def mutants(rng, value, types):
    """Values that are nearly the derivation or refusal."""
    found = [[], (), None, tuple(value), [list(one) for one in value], value + value[-1:], value[:-1], value[1:],
             value[:1] + value, value[::-1], [value], [()], value + [()], value + [None], [None] + value, value + [[]],
             value + ["ab"], value + value, [one + (0,) for one in value], [one[:-1] for one in value]]
    for at, row in enumerate(value):
        found += [value[:at] + [list(row)] + value[at + 1:], value[:at] + value[at + 1:],
                  value[:at] + [row] + value[at:], value[:at] + [(row[1], row[0]) + row[2:]] + value[at + 1:]]
        for side in (0, 1):
            for other in (rng.choice(types), "x", ["x"], (9,), None, True, row[side], list(row[side])):
                changed = row[:side] + (other,) + row[side + 1:]
                found.append(value[:at] + [changed] + value[at + 1:])
        if len(row) == 3:
            used = row[2]
            choices = [list(used), used + (0,), used[:-1], used[::-1], None, 0, "", (None,) * len(used), (-1,) * len(used),
                       tuple([bool(one) for one in used]), tuple([one + 1 for one in used]), (at,) * len(used),
                       tuple([str(one) for one in used]), tuple([one - len(value) for one in used]), ([],) * len(used)]
            found += [value[:at] + [row[:2] + (one,)] + value[at + 1:] for one in choices]
        for other in range(at):
            swapped = list(value)
            swapped[at], swapped[other] = swapped[other], swapped[at]
            found.append(swapped)
    return found


class Needs(Case):
    def test_example(self):
        self.same([needs(EXAMPLE, (1, (3,)), (1, (2,))), needs(EXAMPLE, (2,), (3,))],
                  [[((3,), (2,)), ((2,), (3,))], None])

    def test_each_sign(self):
        self.same(needs(SIGNED, (0, "x"), (0, (4,))), [("x", (4,))])
        self.same(needs(SIGNED, (1, "x"), (1, (4,))), [((4,), "x")])
        self.same(needs(SIGNED, (2, "x"), (2, (4,))), [("x", (4,)), ((4,), "x")])
        self.same(needs(SIGNED, (3, "x", "y"), (3, (4,), (0, "z"))), [((0, "z"), "y")])
        self.same(needs(SIGNED, (4,), (4,)), [])
        two = ((("=", "+"), (), ()), (("-", "="), (), ()), (("*", "*"), (), ()))
        self.same(needs(two, (0, "a", "b"), (0, "c", "d")), [("a", "c"), ("c", "a"), ("b", "d")])
        self.same(needs(two, (1, "a", "b"), (1, "c", "d")), [("c", "a"), ("b", "d"), ("d", "b")])
        self.same(needs(two, (2, "a", "b"), (2, "c", "d")), [])

    def test_equal_pairs_are_listed_as_they_come(self):
        two = ((("=", "="), (), ()),)
        self.same(needs(two, (0, "x", "x"), (0, "x", "x")), [("x", "x")] * 4)

    def test_variables(self):
        self.same(needs(SIGNED, "x", "x"), [])
        self.same(needs(SIGNED, "a", "a"), [])
        for s, t in (("x", "y"), ("a", "b"), ("x", (4,)), ((4,), "x"), ("x", (0, "x")), ((0, "x"), "x")):
            self.assertIsNone(needs(SIGNED, s, t), (s, t))
        self.same([needs((), "x", "x"), needs((), "x", "y")], [[], None])

    def test_the_instance_above(self):
        self.same(needs(SIGNED, (4,), (2, "x")), [((4,), "x"), ("x", (4,))])
        self.assertIsNone(needs(SIGNED, (2, "x"), (4,)))
        self.same(needs(samples.RICH, (4, "x"), (0, (2,), "y")), [("x", (2,)), ("y", (2,))])
        self.same(needs(samples.ROUND, (1,), (0, (1,))), [((1,), (0, (1,)))])

    def test_tables(self):
        for table in samples.SOUND:
            for s, t in samples.pairs_of(table, 24, 9):
                self.same(self.steady(needs, table, s, t), oracle.needs(table, s, t), (table, s, t))

    def test_errors(self):
        self.refuses_tables(needs, "x", "x")
        self.needs_sound(needs, "x", "x")
        for table in (EXAMPLE, samples.RICH, samples.WILD, ()):
            self.refuses_types(needs, table, 0, None, "x")
            self.refuses_types(needs, table, 1, "x", None)
        self.fails_in_order(needs, [EXAMPLE, (3,), (2,)], [
            (InvalidTable, 0, 0), (Unsound, 0, samples.RING), (InvalidType, 1, (4,)), (InvalidType, 2, [2])])


class IsDerivation(Case):
    def both(self, table, s, t, value):
        answer = self.steady(is_derivation, table, s, t, value)
        self.assertIs(answer, oracle.derivation_ok(table, s, t, value), (table, s, t, value))
        return answer

    def test_example(self):
        rows = [((3,), (2,), ()), ((1, (3,)), (0, (2,)), (0,))]
        self.assertIs(is_derivation(EXAMPLE, (1, (3,)), (0, (2,)), rows), True)

    def test_by_hand(self):
        s, t = (1, (3,)), (0, (2,))
        low = ((3,), (2,), ())
        self.assertTrue(self.both(EXAMPLE, s, t, [low, low, (s, t, (1,))]))
        self.assertTrue(self.both(EXAMPLE, s, t, [low, ((2,), (2,), ()), (s, t, (0,))]))
        self.assertTrue(self.both(EXAMPLE, s, t, [low, (s, t, (0,)), (s, t, (0,))]))
        for rows in (
                [], [low], [(s, t, (0,)), low], [(s, t, ())], [low, (s, t, ())], [low, (s, t, (1,))], [low, (s, t, (0, 0))],
                [low, (s, t, (-1,))], [low, (s, t, (-2,))], [low, (s, t, (False,))], [low, low, (s, t, (True,))],
                [low, (s, t, [0])], [low, [s, t, (0,)]], (low, (s, t, (0,))), [low, (s, t, (0,)), ()], [low, (s, t)],
                [((2,), (2,), ()), (s, t, (0,))], [((2,), (3,), ()), low, (s, t, (1,))], [low, (s, t, (0,)), low],
                [((3,), (2,), (0,)), (s, t, (0,))], [((False,), (2,), ()), low, (s, t, (1,))],
                [((3,), [2], ()), low, (s, t, (1,))], [low, (s, t, (0,)), ("x", "y", ())], [low, (s, t, ("0",))],
                [low, (s, t, (None,))], [low, (s, t, ((0,),))], None, "rows", 0, {}):
            self.assertFalse(self.both(EXAMPLE, s, t, rows), rows)

    def test_of_other_pairs(self):
        rows = [((3,), (2,), ())]
        for s, t, answer in (((3,), (2,), True), ((2,), (2,), False), ((3,), (3,), False), ((2,), (3,), False),
                             ("x", (2,), False), ((3,), "x", False)):
            self.assertIs(is_derivation(EXAMPLE, s, t, rows), answer)

    def test_variables(self):
        self.assertTrue(self.both((), "x", "x", [("x", "x", ())]))
        self.assertFalse(self.both((), "x", "y", [("x", "y", ())]))
        self.assertFalse(self.both((), "x", "x", [("y", "y", ())]))
        self.assertTrue(self.both((), "x", "x", [("y", "y", ()), ("x", "x", ())]))
        self.assertFalse(self.both((), "x", "x", [("y", "x", ()), ("x", "x", ())]))
        self.assertFalse(self.both((), "x", "x", [("aa", "aa", ()), ("x", "x", ())]))

    def test_the_pair_that_comes_round(self):
        s, t = (1,), (0, (1,))
        self.assertFalse(self.both(samples.ROUND, s, t, [(s, t, (0,))]))
        self.assertFalse(self.both(samples.ROUND, s, t, [(s, t, ()), (s, t, (0,))]))

    def test_tables(self):
        rng = random.Random(10)
        right = 0
        for table in samples.SOUND:
            types = samples.types_of(table, 8, 11)
            for s, t in samples.pairs_of(table, 12, 12):
                rows = oracle.derive(table, s, t)
                if rows is None:
                    self.assertFalse(self.both(table, s, t, [(s, t, ())]))
                    continue
                right += 1
                self.assertTrue(self.both(table, s, t, rows))
                several = mutants(rng, rows, types)
                for value in rng.sample(several, min(40, len(several))) + bool_mutants(rows):
                    self.both(table, s, t, value)
        self.assertGreater(right, 300)

    def test_bools_in_place_of_integers(self):
        table = samples.RICH
        rows = [("x", "x", ()), ((0, "x", (2,)), (0, "x", (3,)), (0, 1))]
        rows.insert(1, ((3,), (2,), ()))
        self.assertTrue(self.both(table, *rows[-1][:2], rows))
        self.assertEqual(len(bool_mutants(rows)), 3)
        for value in bool_mutants(rows):
            self.assertFalse(self.both(table, *rows[-1][:2], value))

    def test_types_of_any_size(self):
        table = samples.EXAMPLE
        deep, rows = "x", [("x", "x", ())]
        for level in range(100):
            deep = (0, deep)
            rows.append((deep, deep, (level,)))
        small = [((3,), (2,), ())]
        self.assertIs(is_derivation(table, (3,), (2,), rows + small), True)
        self.assertIs(is_derivation(table, (3,), (2,), rows[1:] + small), False)
        self.assertIs(is_derivation(table, (3,), (2,), [(deep, deep, (0,))] + small), False)
        self.fails(InvalidType, is_derivation, table, deep, deep, rows)
        self.assertIs(is_derivation(table, rows[6][0], rows[6][1], rows), False)
        self.assertIs(is_derivation(table, rows[6][0], rows[6][1], rows[:7]), True)

    def test_odd_values(self):
        for value in samples.ODD:
            self.assertFalse(self.both(EXAMPLE, (3,), (2,), value))
            self.assertFalse(self.both(EXAMPLE, (3,), (2,), [((3,), (2,), value)]) and value != ())
            self.both(EXAMPLE, (3,), (2,), [(value, value, ()), ((3,), (2,), ())])
            self.assertFalse(self.both(EXAMPLE, (3,), (2,), [value, ((3,), (2,), ())]))

    def test_errors(self):
        rows = [((3,), (2,), ())]
        self.refuses_tables(is_derivation, "x", "x", rows)
        self.needs_sound(is_derivation, "x", "x", rows)
        self.refuses_types(is_derivation, EXAMPLE, 0, None, "x", [])
        self.refuses_types(is_derivation, EXAMPLE, 1, "x", None, rows)
        self.fails_in_order(is_derivation, [EXAMPLE, (3,), (2,), None], [
            (InvalidTable, 0, 0), (Unsound, 0, samples.CLASH), (InvalidType, 1, (4,)), (InvalidType, 2, True)])


class IsRefusal(Case):
    def both(self, table, s, t, value):
        answer = self.steady(is_refusal, table, s, t, value)
        self.assertIs(answer, oracle.refusal_ok(table, s, t, value), (table, s, t, value))
        return answer

    def test_example(self):
        road = [((1, (3,)), (1, (2,))), ((2,), (3,))]
        self.assertIs(is_refusal(EXAMPLE, (1, (3,)), (1, (2,)), road), True)

    def test_by_hand(self):
        s, t = (1, (3,)), (1, (2,))
        top, end = (s, t), ((2,), (3,))
        for road in (
                [], [top], [end], [end, top], [top, top], [top, top, end], [top, ((3,), (2,))], [top, end, end],
                [top, end, ((2,), (2,))], (top, end), [top, list(end)], [list(top), end], [top, end + ((),)],
                [top, ((2,), [3])], [top, ((2,), 3)], [top, "ab"], [top, end, None], [((1, (3,)), (1, (False,))), end],
                [top, ((2,), (2,)), end], None, 0, "", {}):
            self.assertFalse(self.both(EXAMPLE, s, t, road), road)

    def test_bools_in_place_of_integers(self):
        road = [((1, (0, (3,))), (1, (0, (2,)))), ((0, (2,)), (0, (3,))), ((2,), (3,))]
        self.assertTrue(self.both(EXAMPLE, *road[0], road))
        self.assertEqual(len(bool_mutants(road)), 4)
        for value in bool_mutants(road):
            self.assertFalse(self.both(EXAMPLE, *road[0], value))

    def test_of_other_pairs(self):
        self.assertTrue(self.both(EXAMPLE, (2,), (3,), [((2,), (3,))]))
        self.assertFalse(self.both(EXAMPLE, (2,), "x", [((2,), (3,))]))
        self.assertFalse(self.both(EXAMPLE, (3,), (2,), [((2,), (3,))]))
        self.assertFalse(self.both(EXAMPLE, (3,), (2,), [((3,), (2,))]))
        self.assertFalse(self.both(EXAMPLE, (3,), (2,), [((3,), (2,)), ((2,), (3,))]))

    def test_variables(self):
        self.assertTrue(self.both((), "x", "y", [("x", "y")]))
        self.assertFalse(self.both((), "x", "x", [("x", "x")]))
        self.assertTrue(self.both(EXAMPLE, "x", (2,), [("x", (2,))]))
        self.assertTrue(self.both(EXAMPLE, (0, "x"), (0, "y"), [((0, "x"), (0, "y")), ("x", "y")]))

    def test_the_pair_that_comes_round(self):
        s, t = (1,), (0, (1,))
        self.assertTrue(self.both(samples.ROUND, s, t, [(s, t)]))
        self.assertTrue(self.both(samples.ROUND, s, t, [(s, t), (s, t)]))
        self.assertTrue(self.both(samples.ROUND, s, t, [(s, t)] * 5))
        self.assertFalse(self.both(samples.ROUND, s, t, [(s, t), (t, s)]))
        outer, inner = ((0, t), (0, s)), (s, t)
        self.assertTrue(self.both(samples.ROUND, (0, t), (0, s), [outer, inner]))
        self.assertFalse(self.both(samples.ROUND, (0, t), (0, s), [outer]))
        self.assertFalse(self.both(samples.ROUND, (0, t), (0, s), [outer, outer]))

    def test_a_ring_of_four_pairs(self):
        """The first pair comes round by way of three others; so does one that does not belong to the ring."""
        table = ((("-",), (), ()), ((), ((0, (0, (2,))),), ()), ((), ((0, (0, (1,))),), ()))
        one, two = (1,), (2,)
        ring = [(one, (0, two)), (two, (0, two)), (two, (0, one)), (one, (0, one))]
        self.assertTrue(self.both(table, *ring[0], ring))
        self.assertTrue(self.both(table, *ring[0], ring + ring[:2]))
        self.assertFalse(self.both(table, *ring[0], ring[::-1]))
        for length in (1, 2, 3):
            self.assertFalse(self.both(table, *ring[0], ring[:length]))
            self.assertFalse(self.both(table, *ring[0], ring[:length] + ring[length + 1:]))
        outer = ((0, (0, two)), (0, one))
        self.assertTrue(self.both(table, *outer, [outer] + ring))
        self.assertFalse(self.both(table, *outer, [outer] + ring[:3]))

    def test_tables(self):
        rng = random.Random(13)
        right = 0
        for table in samples.GOOD:
            types = samples.types_of(table, 8, 14)
            for s, t in samples.pairs_of(table, 16, 15):
                road = refusal_of(table, s, t)
                if road is None:
                    self.assertFalse(self.both(table, s, t, [(s, t)]))
                    continue
                right += 1
                self.assertTrue(self.both(table, s, t, road))
                several = mutants(rng, road, types)
                for value in rng.sample(several, min(40, len(several))) + bool_mutants(road):
                    self.both(table, s, t, value)
        self.assertGreater(right, 150)

    def test_tables_that_are_not_tame(self):
        for table in samples.WILDS:
            for s, t in samples.pairs_of(table, 12, 16):
                road = [(s, t)]
                while len(road) < 8 and oracle.needs(table, *road[-1]):
                    road.append(oracle.needs(table, *road[-1])[-1])
                    self.both(table, s, t, list(road))
                self.both(table, s, t, road)

    def test_types_of_any_size(self):
        left, right, road = "x", "y", [("x", "y")]
        for _ in range(100):
            left, right = (0, left), (0, right)
            road.insert(0, (left, right))
        self.assertIs(is_refusal(EXAMPLE, *road[94], road[94:]), True)
        self.assertIs(is_refusal(EXAMPLE, *road[94], road), False)
        self.fails(InvalidType, is_refusal, EXAMPLE, left, right, road)
        # In this table a pair of small types needs ever greater ones.
        wild, pairs = samples.WILD, [((2,), (0, (2,)))]
        while len(pairs) < 40:
            wanted = oracle.needs(wild, *pairs[-1])
            if not wanted:
                break
            pairs.append(wanted[0])
        self.both(wild, *pairs[0], pairs)

    def test_odd_values(self):
        for value in samples.ODD:
            self.assertFalse(self.both(EXAMPLE, (2,), (3,), value))
            self.assertFalse(self.both(EXAMPLE, (2,), (3,), [((2,), (3,)), value]))
            self.assertFalse(self.both(EXAMPLE, (2,), (3,), [value, ((2,), (3,))]))
            self.assertFalse(self.both(EXAMPLE, (2,), (3,), [((2,), value)]))

    def test_errors(self):
        road = [((2,), (3,))]
        self.refuses_tables(is_refusal, "x", "x", road)
        self.needs_sound(is_refusal, "x", "x", road)
        self.refuses_types(is_refusal, EXAMPLE, 0, None, "x", [])
        self.refuses_types(is_refusal, EXAMPLE, 1, "x", None, road)
        self.fails_in_order(is_refusal, [EXAMPLE, (2,), (3,), None], [
            (InvalidTable, 0, 0), (Unsound, 0, samples.NAME), (InvalidType, 1, (4,)), (InvalidType, 2, True)])


if __name__ == "__main__":
    unittest.main()
