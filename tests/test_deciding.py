"""kindsunder.deciding: is_under, derivation, refusal (points 13 and 17), joined (points 3 and 13)."""

import random
import unittest

from kindsunder.deciding import derivation, is_under, joined, refusal
from kindsunder.errors import InvalidRows, InvalidTable, InvalidType, NotTame, Unsound
from kindsunder.under import is_derivation, is_refusal
from tests import oracle, samples
from tests.base import Case, with_parts

EXAMPLE, GROW = samples.EXAMPLE, samples.GROW
LOW = [((3,), (2,), ())]


class Deciding(Case):
    def decide(self, table, s, t):
        """What is_under tells; with a right derivation or a right refusal, and not both."""
        answer = self.steady(is_under, table, s, t)
        rows, road = self.steady(derivation, table, s, t), self.steady(refusal, table, s, t)
        if answer:
            self.assertIs(answer, True)
            self.assertIsNone(road, (table, s, t))
            self.assertTrue(oracle.derivation_ok(table, s, t, rows), (table, s, t, rows))
            self.assertIs(is_derivation(table, s, t, rows), True)
        else:
            self.assertIs(answer, False)
            self.assertIsNone(rows, (table, s, t))
            self.assertTrue(oracle.refusal_ok(table, s, t, road), (table, s, t, road))
            self.assertIs(is_refusal(table, s, t, road), True)
        return answer

    def test_examples(self):
        self.same([is_under(EXAMPLE, (1, (3,)), (0, (2,))), is_under(EXAMPLE, (1, (3,)), (1, (2,)))], [True, False])
        self.same([derivation(EXAMPLE, (3,), (2,))[-1], refusal(EXAMPLE, (2,), (3,)),
                   joined(EXAMPLE, [((3,), (3,), ())], LOW)[-1]],
                  [((3,), (2,), ()), [((2,), (3,))], ((3,), (2,), ())])

    def test_by_hand(self):
        rich = samples.RICH
        for s, t, answer in (
                ("x", "x", True), ("x", "y", False), ("x", (2,), False), ((2,), "x", False), ((3,), (2,), True),
                ((0, (3,), (2,)), (0, (2,), (3,)), True), ((0, (2,), (2,)), (0, (3,), (2,)), False),
                ((0, (2,), (3,)), (0, (2,), (2,)), False), ((1, "x", "y"), (1, "x", (4, "z")), True),
                ((1, (3,), "y"), (1, (2,), "y"), False), ((1, (3,), "y"), (0, (2,), (3,)), True),
                ((1, (3,), "y"), (0, (2,), (2,)), True), ((4, (3,)), (0, (2,), (3,)), True),
                ((4, (3,)), (1, (3,), (2,)), True), ((4, (3,)), (1, (2,), (2,)), False), ((0, "x", (2,)), (1, "x", (2,)), False)):
            self.assertIs(self.decide(rich, s, t), answer, (s, t))

    def test_alike_types_are_equal_but_for_star(self):
        self.assertTrue(self.decide(samples.RICH, (1, (2,), "x"), (1, (2,), (3,))))
        self.assertTrue(self.decide(samples.RICH, (1, (2,), (3,)), (1, (2,), "x")))

    def test_the_pair_that_comes_round(self):
        self.assertFalse(self.decide(samples.ROUND, (1,), (0, (1,))))
        self.same(refusal(samples.ROUND, (1,), (0, (1,))), [((1,), (0, (1,)))])
        self.assertFalse(self.decide(samples.ROUND, (0, (0, (1,))), (0, (1,))))
        self.assertTrue(self.decide(samples.ROUND, (1,), (1,)))
        self.assertTrue(self.decide(samples.ROUND, (1,), (0, (0, (1,)))))

    def test_a_longer_ring(self):
        table = ((("-",), (), ()), ((), ((0, (0, (2,))),), ()), ((), ((0, (0, (1,))),), ()))
        self.assertFalse(self.decide(table, (1,), (0, (2,))))
        self.assertFalse(self.decide(table, (0, (0, (2,))), (0, (1,))))

    def test_tables(self):
        answers = {True: 0, False: 0}
        for table in samples.GOOD:
            known = {}
            for s, t in samples.pairs_of(table, 20, 21):
                answer = self.decide(table, s, t)
                self.assertIs(answer, oracle.under(table, s, t, (), known), (table, s, t))
                answers[answer] += 1
        self.assertGreater(answers[True], 200)
        self.assertGreater(answers[False], 200)

    def test_each_type_is_under_itself(self):
        for table in samples.GOOD:
            for one in samples.types_of(table, 8, 22):
                self.assertTrue(self.decide(table, one, one))

    def test_a_type_under_one_under_a_third_one(self):
        many = 0
        for table in samples.GOOD:
            types = samples.types_of(table, 10, 30)
            types += [one for shape in types for one in oracle.moves(table, shape) if oracle.passable(table, one)]
            types = types[:16]
            below = {(s, t): is_under(table, types[s], types[t]) for s in range(len(types)) for t in range(len(types))}
            for s, t in below:
                for u in range(len(types)):
                    if below[(s, t)] and below[(t, u)]:
                        many += 1
                        self.assertTrue(below[(s, u)], (table, types[s], types[t], types[u]))
        self.assertGreater(many, 1000)

    def test_types_under_each_other(self):
        """They are equal but for arguments of parameters with the sign "*"."""
        def bare(table, one):
            if isinstance(one, str):
                return one
            signs = table[one[0]][0]
            return one[:1] + tuple([None if signs[at] == "*" else bare(table, one[1 + at]) for at in range(len(signs))])

        for table in samples.GOOD:
            types = samples.types_of(table, 14, 31, "xy", 3, 9)
            for s in types:
                for t in types:
                    alike = is_under(table, s, t) and is_under(table, t, s)
                    self.assertIs(alike, bare(table, s) == bare(table, t), (table, s, t))

    def test_all_small_types(self):
        """All pairs of types with a depth of at most two of some tables."""
        for table in (EXAMPLE, samples.ROUND, samples.RICH[:4], samples.DIAMOND):
            types = ["x"]
            for _ in range(2):
                below = list(types)
                for number, count in enumerate(oracle.counts_of(table)):
                    fresh = [(number,)]
                    for _ in range(count):
                        fresh = [one + (two,) for one in fresh for two in below[:6]]
                    types += [one for one in fresh if one not in types]
            rng = random.Random(23)
            for s in types:
                for t in rng.sample(types, min(15, len(types))):
                    self.assertIs(self.decide(table, s, t), oracle.under(table, s, t))

    def test_greatest_types(self):
        table = ((("=", "-"), (), ()), (("+",), (), ()), ((), (), ()), ((), ((2,),), ()))
        wide = with_parts([2, 1, 0, 0], 0, 25)
        self.assertTrue(self.decide(table, wide, wide))
        self.assertFalse(self.decide(table, wide, oracle.put(with_parts([2, 1, 0, 0], 0, 25, "a"), ((2,),))))
        deep = {}
        for end in ((2,), (3,)):
            deep[end] = end
            for level in range(5):
                deep[end] = (1, deep[end])
        self.assertEqual(oracle.depth(deep[(2,)]), 6)
        self.assertTrue(self.decide(table, deep[(3,)], deep[(2,)]))
        self.assertFalse(self.decide(table, deep[(2,)], deep[(3,)]))
        full = [(0, (0, (0, (0, (0, (0, "x", "y"), end), (2,)), (2,)), (2,)), (2,)) for end in ((3,), (2,))]
        self.assertTrue(oracle.depth(full[0]) == 6 and oracle.passable(table, full[0]))
        self.assertTrue(self.decide(table, full[0], full[0]))
        self.assertFalse(self.decide(table, full[0], full[1]))

    def test_types_grow_on_the_way(self):
        """The pairs that a pair needs are deeper than what may be passed."""
        table = ((("+",), (), ()), (("+",), ((0, (0, (0, "a"))),), ()), (("+",), ((1, (1, (1, "a"))),), ()))
        self.assertTrue(self.decide(table, (2, (2, "x")), (1, (1, (1, (1, (1, (1, "x"))))))))
        self.assertTrue(self.decide(table, (2, "x"), (0, (0, (0, (1, (1, "x")))))))
        self.assertFalse(self.decide(table, (2, (2, "x")), (1, (1, (1, (1, (1, (2, "x"))))))))
        deep = (2, (2, (2, (2, (2, (2, "x"))))))
        self.assertTrue(self.decide(table, deep, deep))
        for t in ((0, (0, (0, (1, (1, (2, "x")))))), (1, (1, (1, (2, (2, "x"))))), (0, (0, (0, (0, (0, (0, "x"))))))):
            self.assertIs(self.decide(table, deep, t), oracle.under(table, deep, t))

    def test_errors(self):
        for function in (is_under, derivation, refusal):
            self.refuses_tables(function, "x", "x")
            self.needs_sound(function, "x", "x")
            self.needs_tame(function, "x", "x")
            for table in (EXAMPLE, samples.RICH, ()):
                self.refuses_types(function, table, 0, None, "x")
                self.refuses_types(function, table, 1, "x", None)
            self.fails(Unsound, function, samples.FAULTY_WILD, None, None)
            self.fails_in_order(function, [EXAMPLE, (3,), (2,)], [
                (InvalidTable, 0, 0), (Unsound, 0, samples.OBSTACLE_WILD), (NotTame, 0, GROW), (InvalidType, 1, (4,)),
                (InvalidType, 2, [2])])


class Joined(Case):
    def join(self, table, first, second):
        rows = self.steady(joined, table, first, second)
        self.assertTrue(oracle.derivation_ok(table, first[-1][0], second[-1][1], rows), (table, first, second, rows))
        return rows

    def test_by_hand(self):
        same = [((3,), (3,), ())]
        self.join(EXAMPLE, same, LOW)
        self.join(EXAMPLE, LOW, [((2,), (2,), ())])
        self.join(EXAMPLE, LOW + same, LOW)
        self.join((), [("x", "x", ())], [("x", "x", ())])
        first = LOW + [((1, (3,)), (0, (2,)), (0,))]
        self.join(EXAMPLE, first, [((2,), (2,), ()), ((0, (2,)), (0, (2,)), (0,))])

    def test_derivations_that_do_not_meet(self):
        for first, second in ((LOW, LOW), (LOW, [((3,), (3,), ())]), (LOW, [("x", "x", ())]), ([("x", "x", ())], LOW),
                              ([("x", "x", ())], [("y", "y", ())]), (LOW, [((2,), (2,), ()), ((3,), (3,), ())])):
            self.fails(InvalidRows, joined, EXAMPLE, first, second)

    def test_values_that_are_no_derivations(self):
        same = [((3,), (3,), ())]
        wrong = samples.ODD + [
            [((3,), (2,))], [((2,), (3,), ())], [((3,), (2,), [])], [((3,), (2,), (0,))], tuple(LOW), [list(LOW[0])],
            [((1, (3,)), (1, (3,)), ())], [((1, (3,)), (1, (3,)), (0, 0)), ((3,), (3,), ())], [("x", "y", ())], LOW + [None],
            [("x", "y", ())] + LOW, [((3,), (3,), (0,))], [((3,), [3], ())], [((9,), (9,), ())], [("xx", "xx", ())]]
        for value in wrong:
            self.fails(InvalidRows, joined, EXAMPLE, value, LOW)
            self.fails(InvalidRows, joined, EXAMPLE, same, value)
            self.fails(InvalidRows, joined, EXAMPLE, value, value)

    def test_tables(self):
        many = 0
        for table in samples.SOUND:
            types = samples.types_of(table, 14, 24)
            types += [one for shape in types for one in oracle.moves(table, shape)]
            rng = random.Random(25)
            rng.shuffle(types)
            under = [(s, t) for s in types[:14] for t in types[:14] if oracle.derive(table, s, t) is not None]
            for s, t in under:
                for u, w in under:
                    if t == u and (s != t or u != w or rng.random() < 0.1) and rng.random() < 0.5:
                        many += 1
                        self.join(table, oracle.derive(table, s, t), oracle.derive(table, u, w))
        self.assertGreater(many, 300)

    def test_types_of_any_size(self):
        first, second = list(LOW), [((2,), (2,), ())]
        for level in range(99):
            for rows in (first, second):
                s, t, _ = rows[-1]
                rows.append(((0, s), (0, t), (level,)))
        rows = self.join(EXAMPLE, first, second)
        self.assertEqual(oracle.depth(rows[-1][0]), 100)

    def test_tables_that_are_not_tame(self):
        """Derivations in a table in which some pairs have neither a derivation nor a refusal."""
        one, two, three = (3, (2,)), (1, (2,)), (0, (1, (0, (2,))))
        first, second = [oracle.derive(samples.WILD, *pair) for pair in ((one, two), (two, three))]
        self.join(samples.WILD, first, second)
        deep = "x"
        for _ in range(20):
            deep = (1, deep)
        low, top = (1, deep), (0, (1, (0, deep)))
        first, second = oracle.derive(GROW, low, top), oracle.derive(GROW, top, top)
        self.join(GROW, first, second)
        self.join(GROW, oracle.derive(GROW, low, low), first)

    def test_errors(self):
        self.refuses_tables(joined, LOW, LOW)
        self.needs_sound(joined, LOW, LOW)
        self.fails_in_order(joined, [EXAMPLE, LOW, [((2,), (2,), ())]], [
            (InvalidTable, 0, 0), (Unsound, 0, samples.OBSTACLE_WILD), (InvalidRows, 1, []), (InvalidRows, 2, None)])


class Steadiness(Case):
    def test_the_same_after_other_calls(self):
        """What one table tells does not change what another one does."""
        calls = []
        for table in samples.GOOD[:12]:
            for s, t in samples.pairs_of(table, 6, 26):
                calls.append((table, s, t))
        before = [(is_under(*call), derivation(*call), refusal(*call)) for call in calls]
        for call in reversed(calls):
            for change in (derivation(*call), refusal(*call)):
                if change is not None:
                    change.clear()
        random.Random(27).shuffle(order := list(range(len(calls))))
        for at in order:
            call = calls[at]
            self.same((is_under(*call), derivation(*call), refusal(*call)), before[at])


if __name__ == "__main__":
    unittest.main()
