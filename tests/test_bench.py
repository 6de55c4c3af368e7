"""kindsunder.bench: Bench (points 3 and 25)."""

import copy
import inspect
import random
import unittest

from kindsunder import errors
from kindsunder.bench import Bench
from kindsunder.errors import Full, InvalidClass, InvalidMark, InvalidSign, InvalidTable, InvalidType, InvalidWatch, NotTame, Unsound
from kindsunder.under import is_derivation, is_refusal
from tests import drawn, oracle, oracle_more, samples
from tests.base import Case

EXAMPLE, RICH = samples.EXAMPLE, samples.RICH
BARE = ((), (), ())
METHODS = ("add_class", "add_super", "add_member", "set_signs", "improve", "watch", "news", "paper", "mark", "back", "answers")


def bench_of(table):
    """A bench with the table, whose classes may need later ones, and its best signs."""
    bench = Bench()
    for row in table:
        bench.add_class((row[0], (), ()))
    for number, row in enumerate(table):
        bench.set_signs(number, ("=",) * len(row[0]))
    for number, row in enumerate(table):
        for one in row[1]:
            bench.add_super(number, one)
        for one in row[2]:
            bench.add_member(number, *one)
    bench.improve()
    return bench


class Beside:
    """The bench once more, by the words of the document: what each call returns, or the name of its error."""

    def __init__(self):
        self.table, self.watched, self.told, self.marks = (), [], [], []

    def answers(self):
        return [oracle.under(self.table, *pair) for pair in self.watched]

    def put(self, table):
        if not oracle.table_ok(table):
            return "InvalidTable"
        if not oracle.sound(table):
            return "Unsound"
        if not oracle.tame(table):
            return "NotTame"
        self.table = table
        return None

    def row(self, number, entry, change):
        rows = [list(row) for row in self.table]
        rows[number][entry] = change(rows[number][entry])
        return self.put(tuple([tuple(row) for row in rows]))

    def has(self, number):
        return oracle.whole(number) and 0 <= number < len(self.table)

    def add_class(self, value):
        if len(self.table) == 5:
            return "Full"
        return self.put(self.table + (value,)) or len(self.table) - 1

    def add_super(self, number, value):
        return self.row(number, 1, lambda some: some + (value,)) if self.has(number) else "InvalidClass"

    def add_member(self, number, name, use, value):
        return self.row(number, 2, lambda some: some + ((name, use, value),)) if self.has(number) else "InvalidClass"

    def set_signs(self, number, signs):
        if not self.has(number):
            return "InvalidClass"
        if type(signs) is not tuple or not all([type(one) is str and one in oracle.SIGNS for one in signs]):
            return "InvalidSign"
        if len(signs) != len(self.table[number][0]):
            return "InvalidSign"
        return self.row(number, 0, lambda _: signs)

    def improve(self):
        return self.put(oracle_more.with_signs(self.table, oracle_more.best_signs(self.table)))

    def watch(self, s, t):
        if not oracle.passable(self.table, s) or not oracle.passable(self.table, t):
            return "InvalidType"
        if len(self.watched) == 6:
            return "Full"
        self.watched.append((s, t))
        self.told.append(oracle.under(self.table, s, t))
        return len(self.watched) - 1

    def news(self):
        now = self.answers()
        found = [(number, answer) for number, answer in enumerate(now) if answer != self.told[number]]
        self.told = now
        return found

    def mark(self):
        if len(self.marks) == 6:
            return "Full"
        self.marks.append((self.table, list(self.watched), list(self.told)))
        return len(self.marks) - 1

    def back(self, number):
        if not oracle.whole(number) or not 0 <= number < len(self.marks):
            return "InvalidMark"
        self.marks = self.marks[:number + 1]
        self.table, self.watched, self.told = self.marks[number][0], list(self.marks[number][1]), list(self.marks[number][2])
        return None


def called(target, call):
    """What the call of a bench returns, or the name of its error."""
    try:
        return getattr(target, call[0])(*call[1:])
    except errors.KindError as error:
        return type(error).__name__


class Examples(Case):
    def test_example(self):
        bench = Bench()
        numbers = [bench.add_class(one) for one in EXAMPLE]
        pair = bench.watch((1, (3,)), (0, (2,)))
        bench.set_signs(0, ("=",))
        self.same([numbers, pair, bench.answers(), bench.news()], [[0, 1, 2, 3], 0, [False], [(0, False)]])

    def test_methods_stand_in_the_class_itself(self):
        for name in METHODS:
            self.assertTrue(inspect.isfunction(vars(Bench)[name]), name)
        self.assertIsInstance(vars(Bench)["table"], property)
        self.assertEqual(Bench.__module__, "kindsunder.bench")

    def test_a_new_bench(self):
        bench = Bench()
        self.same([bench.table, bench.answers(), bench.news()], [(), [], []])
        self.fails(InvalidMark, bench.back, 0)
        self.fails(InvalidWatch, bench.paper, 0)
        self.fails(InvalidClass, bench.add_super, 0, (0,))

    def test_what_calls_return(self):
        bench = Bench()
        self.same([bench.add_class(BARE), bench.add_class((("+",), (), ()))], [0, 1])
        self.assertIsNone(bench.add_super(1, (0,)))
        self.assertIsNone(bench.add_member(1, 3, "get", "a"))
        self.assertIsNone(bench.set_signs(1, ("=",)))
        self.assertIsNone(bench.improve())
        self.same(bench.table, (BARE, (("+",), ((0,),), ((3, "get", "a"),))))
        self.same([bench.watch("x", "y"), bench.watch("x", "x")], [0, 1])
        self.same([bench.mark(), bench.mark()], [0, 1])
        self.assertIsNone(bench.back(0))

    def test_the_table_is_not_assigned(self):
        with self.assertRaises(AttributeError):
            Bench().table = ()


class Changes(Case):
    def test_supers_and_members_come_last(self):
        bench = bench_of((BARE, BARE, BARE))
        bench.add_super(2, (1,))
        bench.add_super(2, (0,))
        for name in (5, 2, 9):
            bench.add_member(0, name, "both", (name // 4,))
        self.same(bench.table, (((), (), ((5, "both", (1,)), (2, "both", (0,)), (9, "both", (2,)))), BARE, ((), ((1,), (0,)), ())))

    def test_five_classes(self):
        bench = bench_of((BARE,) * 5)
        for value in (BARE, None, [], (("+",), ((5, "a"),), ())):
            self.same(self.fails(Full, bench.add_class, value).limit, 5)
        self.same(bench.table, (BARE,) * 5)

    def test_the_rows_of_samples(self):
        for table in samples.GOOD:
            bench = bench_of(table)
            self.same(bench.table, oracle_more.with_signs(table, oracle_more.best_signs(table)))
            for number, row in enumerate(table):
                before = bench.table
                wanted = before[:number] + (row,) + before[number + 1:]
                if oracle.sound(wanted):
                    bench.set_signs(number, row[0])
                    self.same(bench.table, wanted)
                else:
                    self.fails(Unsound, bench.set_signs, number, row[0])
                    self.same(bench.table, before)

    def test_values_that_lead_to_no_table(self):
        bench = bench_of(EXAMPLE)
        before = bench.table
        for value in drawn.ODD + [BARE[:2], list(BARE), (("+",), ((5, "a"),), ()), (("+",), (), ((0, "get", "b"),)), ((), ((4, (2,)),), ())]:
            self.fails(InvalidTable, bench.add_class, value)
        for value in drawn.ODD + ["a", (0, "b"), (0,), (2, "a"), (4,), (True, "a"), [2], (0, [2]), (1, (1, (1, (1, "a"))))]:
            self.fails(InvalidTable, bench.add_super, 1, value)
        for name, use, value in ((0, "get", "b"), (0, "get", "x"), (1, "get", "a"), (10, "get", "a"), (True, "get", "a"), (-1, "get", "a"),
                                 (2, "set", "a"), (2, None, "a"), ("2", "get", "a"), (2, "get", (0,)), (2, "get", [2]), (2, ["get"], "a"),
                                 ([2], "get", "a"), (2, "get", None)):
            self.fails(InvalidTable, bench.add_member, 1, name, use, value)
        full = bench_of((BARE, ((), ((0,), (0,)), tuple([(name, "get", (0,)) for name in range(3)]))))
        self.fails(InvalidTable, full.add_super, 1, (0,))
        self.fails(InvalidTable, full.add_member, 1, 7, "get", (0,))
        self.same(bench.table, before)

    def test_each_fault(self):
        bench = bench_of(((("=",), (), ((1, "both", "a"),)), (("=",), (), ((2, "get", "a"),)), BARE, ((), (), ((1, "get", (2,)), (2, "get", (2,))))))
        bench.set_signs(1, ("+",))
        before = bench.table
        for call in (("add_super", 0, (0, "a")), ("add_super", 3, (3,)), ("set_signs", 0, ("+",)), ("set_signs", 1, ("-",)),
                     ("set_signs", 0, ("*",)), ("add_member", 1, 3, "put", "a"), ("add_super", 3, (0, (2,))), ("add_super", 3, (1, (3,))),
                     ("add_class", (("*",), (), ((0, "get", "a"),))), ("add_class", ((), ((0, (2,)), (0, (4,))), ())),
                     ("add_class", ((), ((3,), (0, (2,))), ())), ("add_class", ((), ((4,),), ()))):
            error = self.fails(Unsound, getattr(bench, call[0]), *call[1:])
            beside = Beside()
            beside.table = before
            beside.put = lambda table: self.assertTrue(oracle.fault_ok(table, error.fault) and error.fault is not None, (call, error.fault))
            getattr(beside, call[0])(*call[1:])
            self.same(bench.table, before)

    def test_not_tame(self):
        bench = bench_of((((("=",), (), ()),) * 2 + (BARE,)))
        before = bench.table
        self.fails(NotTame, bench.add_super, 1, (0, (1, (0, "a"))))
        self.fails(NotTame, bench.add_class, (("=",), ((0, (3, (0, "a"))),), ()))
        self.same(bench.table, before)
        bench.add_super(1, (0, (0, "a")))
        self.same(bench.table[1][1], ((0, (0, "a")),))

    def test_order_of_errors(self):
        """InvalidClass, then InvalidTable, then Unsound, then NotTame."""
        bench = bench_of(((("=",), (), ()), (("=",), (), ()), BARE))
        for number in drawn.ODD + [3, 4, -1, True, False, "0"]:
            if not (type(number) is int and 0 <= number < 3):
                self.fails(InvalidClass, bench.add_super, number, None)
                self.fails(InvalidClass, bench.add_member, number, None, None, None)
                self.fails(InvalidClass, bench.set_signs, number, None)
        self.fails(InvalidTable, bench.add_super, 1, (1, (1, (0, "b"))))
        # A ring, and not tame.
        self.fails(Unsound, bench.add_super, 1, (1, (1, (0, "a"))))
        self.fails(InvalidTable, bench.add_class, (("+",), ((3, (3, "b")),), ()))
        self.fails(Unsound, bench.add_class, (("+",), ((3, (3, "a")),), ()))

    def test_signs(self):
        bench = bench_of((BARE, (("=",), (), ()), (("=", "="), (), ())))
        for number, many in ((0, 0), (1, 1), (2, 2)):
            for signs in ((), ("+",), ("-", "="), ("*", "*"), ("+", "+", "+")):
                if len(signs) == many:
                    self.assertIsNone(bench.set_signs(number, signs))
                    self.same(bench.table[number][0], signs)
                else:
                    self.fails(InvalidSign, bench.set_signs, number, signs)
            for signs in drawn.ODD + [["+"] * many, "+" * many, ("get",) * many, (None,) * many, (["+"],) * many]:
                if signs != () or many:
                    if not (type(signs) is tuple and len(signs) == many and all([one in ("+", "-", "=", "*") for one in signs])):
                        self.fails(InvalidSign, bench.set_signs, number, signs)


class Watching(Case):
    def test_answers_turn(self):
        bench = bench_of((BARE, BARE, (("=",), (), ())))
        bench.set_signs(2, ("=",))
        pairs = [((1,), (0,)), ((0,), (1,)), ((2, (1,)), (2, (0,))), ("x", "x"), ((2, "x"), (2, "y"))]
        self.same([bench.watch(*pair) for pair in pairs], [0, 1, 2, 3, 4])
        self.same([bench.answers(), bench.news()], [[False, False, False, True, False], []])
        bench.add_super(1, (0,))
        self.same([bench.answers(), bench.news(), bench.news()], [[True, False, False, True, False], [(0, True)], []])
        bench.improve()
        self.same([bench.answers(), bench.news()], [[True, False, True, True, True], [(2, True), (4, True)]])
        bench.set_signs(2, ("-",))
        self.same([bench.answers(), bench.answers(), bench.news(), bench.news()],
                  [[True, False, False, True, False]] * 2 + [[(2, False), (4, False)], []])

    def test_what_turns_and_turns_back_is_no_news(self):
        bench = bench_of((BARE, ((), ((0,),), ()), (("+",), (), ())))
        bench.set_signs(2, ("+",))
        bench.watch((2, (1,)), (2, (0,)))
        bench.set_signs(2, ("=",))
        bench.set_signs(2, ("+",))
        self.same(bench.news(), [])
        bench.set_signs(2, ("=",))
        self.same(bench.news(), [(0, False)])
        bench.set_signs(2, ("+",))
        self.same(bench.news(), [(0, True)])

    def test_six_pairs(self):
        bench = bench_of((BARE,))
        self.same([bench.watch("x", "x") for _ in range(6)], [0, 1, 2, 3, 4, 5])
        self.same(self.fails(Full, bench.watch, "x", "x").limit, 6)
        self.fails(InvalidType, bench.watch, "x", (1,))
        self.fails(InvalidType, bench.watch, None, "x")
        self.same(bench.answers(), [True] * 6)

    def test_wrong_types(self):
        bench = bench_of(EXAMPLE)
        deep = "x"
        for _ in range(6):
            deep = (0, deep)
        for value in drawn.ODD + ["xy", (0,), (4,), [2], (0, [2]), (0, deep)]:
            self.fails(InvalidType, bench.watch, value, "x")
            self.fails(InvalidType, bench.watch, "x", value)
        self.same([bench.answers(), bench.watch(deep, "x")], [[], 0])

    def test_papers(self):
        bench = bench_of(samples.ROUND)
        bench.set_signs(0, ("-",))
        table = bench.table
        pairs = [((1,), (0, (1,))), ((1,), (1,)), ((1,), (0, (0, (1,)))), ("x", "x"), ("x", (1,))]
        for number, (s, t) in enumerate(pairs):
            bench.watch(s, t)
            word, value = self.steady(bench.paper, number)
            if oracle.under(table, s, t):
                self.assertTrue(word == "derivation" and is_derivation(table, s, t, value))
            else:
                self.assertTrue(word == "refusal" and is_refusal(table, s, t, value))

    def test_numbers_of_pairs(self):
        bench = bench_of(EXAMPLE)
        for many in range(4):
            for value in drawn.ODD + [many, many + 1, -1, "0", (0,), [0]]:
                if not (type(value) is int and 0 <= value < many):
                    self.same(self.fails(InvalidWatch, bench.paper, value).number, value)
            bench.watch("x", "x")


class Marks(Case):
    def test_back_to_each(self):
        bench = bench_of((BARE, BARE, (("=",), (), ())))
        states = []

        def state():
            return [bench.table, bench.answers()]

        for number in range(6):
            self.same(bench.mark(), number)
            states.append(state())
            if number == 0:
                bench.watch((1,), (0,))
            elif number == 1:
                bench.add_super(1, (0,))
            elif number == 2:
                bench.watch((2, (1,)), (2, (0,)))
            elif number == 3:
                bench.improve()
            else:
                bench.add_class(BARE)
        self.same(self.fails(Full, bench.mark).limit, 6)
        for number in (5, 4, 3, 3, 1, 0, 0):
            bench.back(number)
            self.same(state(), states[number])
            for later in range(number + 1, 8):
                self.same(self.fails(InvalidMark, bench.back, later).number, later)
        self.same([bench.mark(), bench.mark()], [1, 2])

    def test_this_mark_and_the_earlier_ones_stay(self):
        bench = Bench()
        bench.mark()
        bench.add_class(BARE)
        bench.mark()
        bench.add_class(BARE)
        bench.mark()
        bench.back(1)
        self.same(bench.table, (BARE,))
        bench.add_class((("+",), (), ()))
        bench.back(1)
        self.same(bench.table, (BARE,))
        self.fails(InvalidMark, bench.back, 2)
        bench.back(0)
        self.same(bench.table, ())
        self.same([bench.mark() for _ in range(5)], [1, 2, 3, 4, 5])
        self.fails(Full, bench.mark)

    def test_what_was_told_is_restored(self):
        bench = bench_of((BARE, BARE))
        bench.watch((1,), (0,))
        bench.mark()
        bench.add_super(1, (0,))
        bench.mark()
        self.same(bench.news(), [(0, True)])
        self.same(bench.news(), [])
        bench.back(1)
        self.same([bench.news(), bench.news()], [[(0, True)], []])
        bench.back(0)
        self.same([bench.answers(), bench.news()], [[False], []])
        bench.add_super(1, (0,))
        self.same(bench.news(), [(0, True)])

    def test_wrong_marks(self):
        bench = Bench()
        for many in range(3):
            for value in drawn.ODD + [many, many + 1, -1, "0", (0,), [0]]:
                if not (type(value) is int and 0 <= value < many):
                    self.same(self.fails(InvalidMark, bench.back, value).number, value)
            bench.mark()


class Histories(Case):
    def call(self, rng, beside, goal):
        """A call that is drawn; many lead towards the table of the goal, and some are wrong."""
        name = rng.choice(METHODS[:3] * 4 + METHODS[3:])
        table = beside.table
        number = rng.randrange(len(table)) if table and rng.random() < 0.97 else rng.choice(drawn.SPARE)
        row = goal[number] if type(number) is int and 0 <= number < len(goal) else rng.choice(goal)
        if name == "add_class":
            at = len(table)
            value = (goal[at][0] if rng.random() < 0.5 else ("=",) * len(goal[at][0]), (), ()) if at < len(goal) else BARE
            call = [name, rng.choice(goal) if rng.random() < 0.1 else value]
        elif name == "add_super":
            call = [name, number, rng.choice(row[1] or ((0,), (1, "a")))]
        elif name == "add_member":
            call = [name, number, *rng.choice(row[2] or ((1, "get", (0,)), (2, "put", "a")))]
        elif name == "set_signs":
            signs = [rng.choice("+-=*") for _ in (table[number][0] if type(number) is int and 0 <= number < len(table) else "+")]
            call = [name, number, tuple(signs)]
        elif name == "watch":
            pool = samples.pairs_of(table, 6, rng.randrange(10 ** 6)) if table else [("x", "x"), ("x", "y")]
            call = [name, *rng.choice(pool)]
        elif name in ("paper", "back"):
            many = len(beside.watched) if name == "paper" else len(beside.marks)
            call = [name, rng.randrange(-1, many + 2) if rng.random() < 0.9 else rng.choice(drawn.SPARE)]
        else:
            call = [name]
        if rng.random() < 0.1 and len(call) > 1:
            at = rng.randrange(1, len(call))
            call[at] = drawn.twisted(rng, call[at], drawn.SPARE)
        return tuple(call)

    def paper(self, bench, beside, number):
        """A paper is a derivation or refusal of its pair."""
        s, t = beside.watched[number]
        word, value = bench.paper(number)
        test = {"derivation": oracle.derivation_ok, "refusal": oracle.refusal_ok}[word]
        self.assertEqual(word == "derivation", oracle.under(beside.table, s, t))
        self.assertTrue(test(beside.table, s, t, value))
        value.clear()

    def step(self, bench, beside, call):
        """One call of both; returns what the second one returns."""
        before = copy.deepcopy(call)
        table, answers = beside.table, beside.answers()
        if call[0] == "paper":
            good = oracle.whole(call[1]) and 0 <= call[1] < len(beside.watched)
            if good:
                self.paper(bench, beside, call[1])
                return None
            wanted = "InvalidWatch"
        else:
            wanted = called(beside, call)
        found = called(bench, call)
        self.same(found, wanted, (table, call))
        self.same(call, before, "an argument is modified")
        self.same(bench.table, beside.table, call)
        if isinstance(found, list):
            found.append("changed")
        self.same(bench.answers(), beside.answers(), call)
        if call[0] in ("add_class", "add_super", "add_member", "improve"):
            for was, now in zip(answers, beside.answers()):
                self.assertTrue(now or not was, (table, call))
        if wanted in ("InvalidClass", "InvalidTable", "Unsound", "NotTame", "InvalidSign", "InvalidType", "Full"):
            self.same((bench.table, bench.answers()), (table, answers))
        return (call[0], wanted) if isinstance(wanted, str) else (call[0], call[0] == "news" and wanted != [])

    def test_drawn_histories(self):
        seen = {}
        goals = samples.GOOD + samples.WILDS + samples.OTHERS
        for seed in range(160):
            rng = random.Random(1000 + seed)
            goal = goals[seed * 7 % len(goals)] or EXAMPLE
            bench, other, beside, last = Bench(), Bench(), Beside(), None
            calls = []
            for _ in range(60):
                calls.append(self.call(rng, beside, goal))
                key = self.step(bench, beside, calls[-1])
                seen[key] = seen.get(key, 0) + 1
                # A call to another bench has no effect on this one.
                called(other, self.call(rng, beside, goal))
                self.same(bench.table, beside.table)
            again, last = Bench(), [called(bench, ("answers",)), bench.table]
            for call in calls:
                called(again, call)
            self.same([again.answers(), again.table], last, "equal calls give equal results")
        for key in (("add_class", "InvalidTable"), ("add_class", "Full"), ("add_super", "InvalidTable"), ("add_super", "Unsound"),
                    ("add_super", "NotTame"), ("add_super", "InvalidClass"), ("add_member", "InvalidTable"), ("add_member", "Unsound"),
                    ("set_signs", "Unsound"), ("set_signs", "InvalidSign"), ("watch", "InvalidType"), ("watch", "Full"), ("news", True),
                    ("back", "InvalidMark"), ("back", False), ("improve", False), ("mark", "Full")):
            self.assertIn(key, seen, sorted(map(str, seen.items())))


class Apart(Case):
    def test_two_benches(self):
        one, two = bench_of(EXAMPLE), bench_of(EXAMPLE)
        one.watch((1, (3,)), (0, (2,)))
        one.mark()
        self.same([two.answers(), two.table], [[], one.table])
        self.fails(InvalidMark, two.back, 0)
        two.set_signs(0, ("=",))
        self.same([one.answers(), one.table[0][0], two.table[0][0]], [[True], ("+",), ("=",)])

    def test_what_is_returned_may_be_changed(self):
        bench = bench_of(EXAMPLE)
        bench.watch((1, (3,)), (0, (2,)))
        bench.watch((2,), (3,))
        before = bench.table
        for _ in range(2):
            bench.answers().append(None)
            bench.news().append((0, False))
            bench.paper(0)[1].clear()
            bench.paper(1)[1].append(None)
            error = self.fails(Unsound, bench.add_super, 2, (2,))
            error.fault[1].append(7)
        self.same([bench.answers(), bench.news(), bench.table], [[True, False], [], before])
        self.same(bench.paper(1), ("refusal", [((2,), (3,))]))
        self.same(self.fails(Unsound, bench.add_super, 2, (2,)).fault, ("ring", [2]))


if __name__ == "__main__":
    unittest.main()
