"""kindsunder.records: judge (points 3, 27 and 39)."""

import random
import unittest

from kindsunder.bridges import bridge, gap
from kindsunder.calls import best_choice, opened
from kindsunder.counts import pump
from kindsunder.errors import InvalidTable, NotTame, Unsound
from kindsunder.extremes import bottom_of, covers, outside, top_of
from kindsunder.keepers import floors_of, keeper
from kindsunder.records import judge
from kindsunder.splits import bar
from kindsunder.wrongs import NotARecord
from tests import bounded, drawn, oracle, oracle_bounds, oracle_calls, samples
from tests.base import Case

EXAMPLE = samples.EXAMPLE
NONE = ((), ())
BOUNDS = ((), ((0, (2,)),))
POOR = (((0, (2,)), (2,)), ())
LOW, HIGH = (((3,),), ()), (((2,),), ())
HALF, CLOSED = ("a", (NONE,)), ((2,), ())
CALL = ((1, ("a", "a"), (0, "a")), ((2,), (3,)), None)
# A right record of each form.
RIGHT = {
    "keeper": ("keeper", EXAMPLE, BOUNDS, (0, (2,)), [(BOUNDS, 2), (((), ((2,),)), 1)]),
    "barren": ("barren", EXAMPLE, POOR, [(POOR, None)]),
    "bar": ("bar", EXAMPLE, LOW, 0, [((3,), (0, "a"))]),
    "pump": ("pump", EXAMPLE, NONE, ([(NONE, 0, 0, ())], (2,))),
    "covers": ("covers", EXAMPLE, HIGH, LOW, ([(HIGH, "lower", (3,))], [])),
    "outside": ("outside", EXAMPLE, LOW, HIGH, (3,)),
    "bottom": ("bottom", EXAMPLE, LOW, (3,), ([(LOW, "lower", (3,))], [])),
    "top": ("top", EXAMPLE, LOW, (2,), ([(LOW, "upper", (2,))], [])),
    "best": ("best", EXAMPLE, CALL, ((2,),), (((([((((2,), (3,)), ()), "lower", (2,))], [])), None),)),
    "bridge": ("bridge", EXAMPLE, HALF, CLOSED, (((3,),), ())),
    "gap": ("gap", EXAMPLE, CLOSED, ((3,), ()), ([(CLOSED, ((3,), ()), "under")], [])),
}


def best_covers(table, call, choice):
    """The last entry of a record for a best choice."""
    found = []
    for letter, bounds, one in zip("ab", opened(table, call), choice):
        sides = oracle_calls.sides(table, call, letter)
        found.append(tuple([covers(table, bounds, oracle_bounds.side_bounds(side, one)) if side in sides else None for side in ("lower", "upper")]))
    return tuple(found)


def records(many, seed):
    """Records with what the other modules return, and with what is nearly right."""
    rng = random.Random(seed)
    found = []
    for table, bounds in bounded.cases(many, seed):
        other = rng.choice(bounded.bounds_of(table, many, seed))
        first = keeper(table, bounds)
        found.append(("keeper", table, bounds, first, floors_of(table, bounds)) if first else ("barren", table, bounds, floors_of(table, bounds)))
        for number in range(len(table)):
            found.append(("bar", table, bounds, number, bar(table, bounds, number)))
        found.append(("pump", table, bounds, pump(table, bounds)))
        found.append(("covers", table, bounds, other, covers(table, bounds, other)))
        found.append(("outside", table, bounds, other, outside(table, bounds, other)))
        for word, end, side in (("bottom", bottom_of(table, bounds), "lower"), ("top", top_of(table, bounds), "upper")):
            end = first if end is None else end
            found.append((word, table, bounds, end, covers(table, bounds, oracle_bounds.side_bounds(side, end)) if end else None))
    for table, call in bounded.calls(many, seed):
        choice = best_choice(table, call)
        if choice is not None:
            found.append(("best", table, call, choice, best_covers(table, call, choice)))
    for table, first, second in bounded.halves(many, seed):
        found.append(("bridge", table, first, second, bridge(table, first, second)))
        found.append(("gap", table, first, second, gap(table, first, second)))
    return found


class Judge(Case):
    def wanted(self, record, wanted):
        self.same(oracle_calls.judge(record), wanted, record)
        self.same(self.steady(judge, record), wanted, record)

    def test_example(self):
        self.same([judge(RIGHT["keeper"]), judge(("outside", EXAMPLE, LOW, HIGH, (2,)))], [("right",), ("wrong", 3)])

    def test_right_ones(self):
        for record in RIGHT.values():
            self.wanted(record, ("right",))

    def test_each_condition_that_fails_first(self):
        """The number of the first condition that fails; those behind it fail, too."""
        spoilt = {
            "keeper": [(2, POOR[::-1][:1]), (3, (2,)), (4, [])], "barren": [(2, None), (3, [(POOR, 1)])], "bar": [(2, 0), (3, 4), (4, [])],
            "pump": [(2, (((3,), (2,)), ())), (3, ([], (2,)))], "covers": [(2, ()), (3, None), (4, None)], "outside": [(2, ""), (3, LOW[:1]), (4, (0, (2,))), (4, (2,))],
            "bottom": [(2, [LOW]), (3, (0, (2,))), (4, ([], []))], "top": [(2, [LOW]), (3, "a"), (4, ([], []))], "best": [(2, CALL[:2]), (3, ((3,),)), (4, ())],
            "bridge": [(2, "a"), (3, ("a", ())), (4, (((3,),), ((2,),)))], "gap": [(2, ((2,),)), (3, None), (4, ([], []))]}
        for word, rows in spoilt.items():
            for first in range(len(rows)):
                for last in range(first, len(rows)):
                    record = list(RIGHT[word])
                    for at, value in reversed(rows[first:last + 1]):
                        record[at] = value
                    self.wanted(tuple(record), ("wrong", first))

    def test_by_hand(self):
        inner = ((), ((2,),))
        for record, wanted in (
                (("keeper", EXAMPLE, BOUNDS, (0, (3,)), [(BOUNDS, 1)]), 2), (("keeper", EXAMPLE, BOUNDS, (0, (3,)), [(BOUNDS, 2), (inner, 1)]), None),
                (("keeper", EXAMPLE, BOUNDS, (1, (2,)), [(BOUNDS, 2), (inner, 1)]), None), (("keeper", EXAMPLE, NONE, (3,), [(NONE, 1)]), None),
                (("keeper", EXAMPLE, NONE, (3,), [(NONE, True)]), 2), (("keeper", EXAMPLE, NONE, (0, (3,)), [(NONE, 1)]), 2), (("keeper", EXAMPLE, NONE, (0, "a"), [(NONE, 1)]), 1),
                (("keeper", EXAMPLE, POOR, (2,), [(POOR, None)]), 1), (("barren", EXAMPLE, POOR, [(POOR, 3)]), 1), (("barren", EXAMPLE, NONE, [(NONE, None)]), 1),
                (("bar", EXAMPLE, LOW, False, [((3,), (0, "a"))]), 1), (("bar", EXAMPLE, LOW, 1, [((3,), (0, "a"))]), 2), (("bar", EXAMPLE, LOW, 1, [((3,), (1, "a"))]), None),
                (("outside", EXAMPLE, LOW, NONE, (3,)), 3), (("outside", EXAMPLE, NONE, POOR, (3,)), None), (("bottom", EXAMPLE, LOW, (2,), ([(LOW, "lower", (3,))], [])), 2),
                (("bottom", EXAMPLE, LOW, (3,), ([(LOW, "upper", (3,))], [])), 2), (("top", EXAMPLE, LOW, (2,), ([(LOW, "lower", (2,))], [])), 2),
                (("bridge", EXAMPLE, HALF, CLOSED, (((2,),), ())), None), (("bridge", EXAMPLE, HALF, CLOSED, (((0, (2,)),), ())), 2), (("bridge", EXAMPLE, HALF, CLOSED, [((2,),), ()]), 2),
                (("bridge", EXAMPLE, HALF, CLOSED, (((2,),), (), ())), 2), (("bridge", EXAMPLE, HALF, CLOSED, (((2,), (2,)), ())), 2), (("bridge", EXAMPLE, HALF, CLOSED, (("a",), ())), 2),
                (("bridge", EXAMPLE, HALF, HALF, (((3,),), ((2,),))), None), (("bridge", EXAMPLE, HALF, HALF, (((2,),), ((3,),))), 2),
                (("bridge", EXAMPLE, ("a", (HIGH,)), HALF, (((3,),), ((3,),))), 2), (("bridge", EXAMPLE, ("a", (LOW,)), HALF, (((3,),), ((3,),))), None),
                (("bridge", EXAMPLE, HALF, ("a", (HIGH,)), (((3,),), ((3,),))), 2), (("gap", EXAMPLE, CLOSED, CLOSED, ([(CLOSED, CLOSED, "under")], [])), 2)):
            self.wanted(record, ("right",) if wanted is None else ("wrong", wanted))

    def test_order_of_fillings(self):
        """A filling has the type for "a" first, wherever it stands in the shape."""
        table = bounded.PAIRS
        half = ((0, "b", "a"), ((((1,),), ()), ((), ((2,),))))
        for filling, wanted in ((((1,), (2,)), ("right",)), (((2,), (1,)), ("wrong", 2))):
            self.wanted(("bridge", table, half, ((0, (1,), (2,)), ()), (filling, ())), wanted)
            self.wanted(("bridge", table, half, ("b", (NONE,)), (filling, ((0, (2,), (1,)),))), wanted)

    def test_best(self):
        """Covers stand for each side that counts; on the other ones any value may stand."""
        table = ((("+", "-"), (), ()), ((), (), ()), ((), ((1,),), ()), (("=",), (), ()), (("*",), (), ()))
        low, high = (((2,),), ()), ((), ((1,),))
        both = (((2,),), ((2,),))
        lower, upper = ([(low, "lower", (2,))], []), ([(low, "upper", (1,))], [])
        for parameters, arguments, result, choice, value, wanted in (
                (("a",), ((2,),), "a", (2,), (lower, None), None), (("a",), ((2,),), "a", (2,), (lower, lower), None), (("a",), ((2,),), "a", (2,), (None, lower), 2),
                (("a",), ((2,),), "a", (1,), (lower, None), 2), (("a",), ((2,),), (0, (1,), "a"), (1,), (None, upper), None), (("a",), ((2,),), (0, (1,), "a"), (1,), (upper, None), 2),
                (("a",), ((2,),), (0, (1,), "a"), (2,), (None, upper), 2), (("a",), ((2,),), (0, "a", "a"), (2,), (lower, None), 2), (("a",), ((2,),), (0, "a", "a"), (1,), (None, upper), 2),
                (("a",), ((2,),), (3, "a"), (2,), (lower, None), 2), (("a",), ((2,),), (3, "a"), (1,), (None, upper), 2), (("a",), ((2,),), (4, "a"), (2,), ("x", [0]), None),
                (("a",), ((2,),), (1,), (1,), (None, None), None), (("a",), ((2,),), (1,), (1,), (None, None, None), 2), (("a",), ((2,),), (1,), (1,), [None, None], 2),
                (("a",), ((2,),), "a", (4, (1,)), (lower, None), 1), (((3, "a"),), ((3, (2,)),), (3, "a"), (2,), (([(both, "lower", (2,))], []), ([(both, "upper", (2,))], [])), None),
                (((3, "a"),), ((3, (2,)),), (3, "a"), (2,), (([(both, "lower", (2,))], []), ([(both, "lower", (2,))], [])), 2)):
            self.wanted(("best", table, ((1, parameters, result), arguments, None), (choice,), (value,)), ("right",) if wanted is None else ("wrong", wanted))
        call = ((2, ("a", "b"), (0, "b", "a")), ((2,), (2,)), None)
        for value, wanted in ((((None, upper), (lower, None)), ("right",)), (((lower, None), (None, upper)), ("wrong", 2)), (((None, upper),), ("wrong", 2)), (((None, upper), (lower, None), None), ("wrong", 2))):
            self.wanted(("best", table, call, ((1,), (2,)), value), wanted)
        self.wanted(("best", table, ((0, (), (1,)), (), None), (), ()), ("right",))
        self.wanted(("best", table, ((0, (), (1,)), (), None), (), None), ("wrong", 2))
        self.wanted(("best", table, ((0, (), (1,)), (), (2,)), (), ()), ("wrong", 1))

    def test_what_the_other_modules_return(self):
        seen = {}
        for record in records(6, 391):
            found = self.steady(judge, record)
            self.same(found, oracle_calls.judge(record), record)
            if record[-1] is not None:
                self.same(found, ("right",), record)
            seen[(record[0], found)] = seen.get((record[0], found), 0) + 1
        for word in RIGHT:
            self.assertGreater(seen[(word, ("right",))], 10, seen)

    def test_entries_exchanged(self):
        """The entries of records about the same table in place of each other."""
        rng = random.Random(392)
        seen = {}
        for record in records(4, 393):
            others = [other for other in RECORDS_BY_TABLE[record[1]] if other[0] == record[0]]
            for at in range(2, len(record)):
                value = record[:at] + (rng.choice(others)[at],) + record[at + 1:]
                found = judge(value)
                self.same(found, oracle_calls.judge(value), value)
                seen[(record[0], found)] = seen.get((record[0], found), 0) + 1
        for word, conditions in oracle_calls.RECORDS.items():
            self.assertTrue(word == "barren" or (word, ("wrong", len(conditions) - 1)) in seen, (word, seen))

    def test_changed_records(self):
        rng = random.Random(394)
        seen = {}
        for record in records(5, 395):
            pool = drawn.SPARE + bounded.pool_of(record[1], 4) + [NONE, BOUNDS, "lower", "upper", "under", "alike"]
            for _ in range(3):
                at = rng.randrange(2, len(record))
                value = record[:at] + (drawn.twisted(rng, record[at], pool),) + record[at + 1:]
                found = self.steady(judge, value)
                self.same(found, oracle_calls.judge(value), value)
                seen[(record[0], found)] = seen.get((record[0], found), 0) + 1
        for word, conditions in oracle_calls.RECORDS.items():
            for number in range(len(conditions)):
                self.assertTrue((word, number) == ("outside", 3) or (word, ("wrong", number)) in seen, (word, number, seen))

    def test_any_values(self):
        for word, record in RIGHT.items():
            for value in drawn.ODD + list(RIGHT):
                for at in range(2, len(record)):
                    one = record[:at] + (value,) + record[at + 1:]
                    self.same(judge(one), oracle_calls.judge(one), one)
                self.same(judge(record[:2] + (value,) * (len(record) - 2)), ("wrong", 0) if value != () else oracle_calls.judge(record[:2] + (value,) * (len(record) - 2)))

    def test_forms(self):
        for value in drawn.ODD + [("keeper",), ("keeper", EXAMPLE), (["keeper"],) + RIGHT["keeper"][1:], ("Keeper",) + RIGHT["keeper"][1:], ("fault", EXAMPLE, None), (None,) * 5, ("",) * 5, (0,) * 4]:
            self.fails(NotARecord, judge, value)
        for word, record in RIGHT.items():
            for value in (record[:-1], record + (None,), list(record), record[1:], (word,) + (None,) * (len(record) - 2), (word,) + (None,) * len(record)):
                self.fails(NotARecord, judge, value)
        for one in ("derivation", "refusal", "levels", "floors", "record", "split"):
            for many in range(6):
                self.fails(NotARecord, judge, (one, EXAMPLE) + (None,) * many)

    def test_tables(self):
        for word, record in RIGHT.items():
            rest = (None,) * (len(record) - 2)
            for value in samples.ODD:
                if value != ():
                    self.fails(InvalidTable, judge, (word, value) + rest)
            for table in samples.OTHERS[::3] + [samples.OBSTACLE_WILD, samples.FAULTY_WILD]:
                error = self.fails(Unsound, judge, (word, table) + rest)
                self.assertTrue(oracle.fault_ok(table, error.fault))
                self.fails(Unsound, judge, (word, table) + record[2:])
            for table in samples.WILDS:
                self.fails(NotTame, judge, (word, table) + rest)
                self.fails(NotTame, judge, (word, table) + record[2:])
            self.fails(NotARecord, judge, (word, None) + rest[1:])
            self.same(judge((word, EXAMPLE) + rest), ("wrong", 0))


RECORDS_BY_TABLE = {}
for one in records(4, 396):
    RECORDS_BY_TABLE.setdefault(one[1], []).append(one)
for one in records(4, 393):
    RECORDS_BY_TABLE.setdefault(one[1], []).append(one)

if __name__ == "__main__":
    unittest.main()
