"""kindsunder.checker: check (point 26)."""

import random
import unittest

from kindsunder.checker import check
from kindsunder.deciding import derivation, refusal
from kindsunder.errors import InvalidTable, NotACertificate, NotTame, Unsound
from kindsunder.growth import growing_ring, levels, road
from kindsunder.programs import misfit
from kindsunder.signs import reason, uses
from kindsunder.sound import fault
from tests import drawn, oracle, oracle_more, samples
from tests.base import Case

EXAMPLE, RICH, GROW = samples.EXAMPLE, samples.RICH, samples.GROW
BARE = ((), (), ())
RIGHT = ("right",)
PROGRAM = (((2,), (3,)), (("new", 0, (2,), ()), ("copy", 1, 0), ("copy", 1, 0)))
FITTING = (((2,), (3,)), (("new", 0, (3,), ()), ("copy", 0, 1)))


def certificates(table, rng):
    """Right certificates of all forms that the table has, by what the other modules return."""
    found = [("levels", table, levels(table))] if oracle.tame(table) else [
        ("growth", table, growing_ring(table)), ("road", table, road(table, 6))]
    for use in uses(table):
        found.append(("reason", table, *use, reason(table, *use)))
    if fault(table) is not None:
        found.append(("fault", table, fault(table)))
    else:
        for s, t in samples.pairs_of(table, 6, rng.randrange(100)):
            if oracle.tame(table):
                found.append(("derivation", table, s, t, derivation(table, s, t)) if oracle.under(table, s, t)
                             else ("refusal", table, s, t, refusal(table, s, t)))
    pool = drawn.closed_types(table, 8, 4, 91) if fault(table) is None and oracle.tame(table) else []
    for fits in (True, False) if pool else ():
        program = drawn.draw_program(rng, table, pool, fits)
        found.append(("program", table, program, misfit(table, program)))
    return found


class Certificates(Case):
    def says(self, certificate, wanted):
        self.same(oracle_more.judge(certificate), wanted, certificate)
        self.same(self.steady(check, certificate), wanted, certificate)

    def right(self, *certificate):
        self.says(certificate, RIGHT)

    def wrong(self, number, *certificate):
        self.says(certificate, ("wrong", number))

    def test_example(self):
        self.same([check(("derivation", EXAMPLE, (3,), (2,), [((3,), (2,), ())])), check(("refusal", EXAMPLE, (3,), (2,), [((3,), (2,))]))],
                  [RIGHT, ("wrong", 1)])

    def test_rings(self):
        for value in ([0, 1, 2], [1, 2, 0], [2, 0, 1]):
            self.right("fault", samples.RING, ("ring", value))
        for value in ([], [0], [0, 1], [0, 2, 1], [0, 1, 2, 0, 1, 2], [0, 1, 2, 0], (0, 1, 2), [False, True, 2], [3, 4, 5], [-3, -2, -1], None, [None],
                      [[0], [1], [2]], "012"):
            self.wrong(1, "fault", samples.RING, ("ring", value))
        self.right("fault", samples.SELF_RING, ("ring", [1]))
        self.wrong(1, "fault", samples.SELF_RING, ("ring", [True]))
        self.wrong(1, "fault", samples.SELF_RING, ("ring", [0]))
        # A ring is the first form, whatever else there is.
        self.right("fault", samples.RING_AND_MORE, ("ring", [0, 1]))

    def test_the_form_of_a_fault(self):
        for value in drawn.ODD + [("ring",), ("ring", [0], 0), ["ring", [0, 1, 2]], ("rings", [0, 1, 2]), ("obstacle", (0, 0, ("super", 0, ()))),
                                    ("obstacle", 1, 0), ("clash", 2, 0, (0, (1,)), (0, (2,))), ("name",), (["ring"], [0]), (("ring", [0]),), (None, None),
                                    ("obstacle", 1, 0, ("super", 0, (0,)), 0), "ring", "name"]:
            for table in (samples.RING, samples.OBSTACLE, EXAMPLE, ()):
                self.wrong(0, "fault", table, value)

    def test_obstacles(self):
        self.right("fault", samples.OBSTACLE, ("obstacle", 1, 0, ("super", 0, (0,))))
        self.right("fault", samples.MEMBER_OBSTACLE, ("obstacle", 0, 0, ("member", 1, ())))
        for value in ((True, 0, ("super", 0, (0,))), (1, False, ("super", 0, (0,))), (1, 0, ("super", False, (0,))), (1, 0, ("super", 0, (False,))),
                      (1, 0, ["super", 0, (0,)]), (1, 0, ("super", 0, [0])), (1, 0, ("super", 0, ())), (1, 0, ("super", 1, (0,))), (1, 0, ("member", 0, (0,))),
                      (0, 0, ("super", 0, (0,))), (1, 1, ("super", 0, (0,))), (2, 0, ("super", 0, (0,))), (-1, 0, ("super", 0, (0,))), (1, -1, ("super", 0, (0,))),
                      (1, 0, None), (None, 0, ("super", 0, (0,))), (1, "a", ("super", 0, (0,))), (1, 0, ("super", 0)), (1, 0, ("super", 0, (0,), 0)),
                      (1, 0, ([], 0, (0,))), (1, 0, ("super", [0], (0,))), (1, 0, ("super", 0, None)), ([1], [0], [])):
            self.wrong(1, "fault", samples.OBSTACLE, ("obstacle",) + value)
        two = ((("+", "-"), (), ()), (("+", "+"), ((0, "a", "b"),), ()))
        self.right("fault", two, ("obstacle", 1, 1, ("super", 0, (1,))))
        self.wrong(1, "fault", two, ("obstacle", 1, -1, ("super", 0, (1,))))
        self.wrong(1, "fault", two, ("obstacle", -1, 1, ("super", 0, (1,))))
        self.wrong(1, "fault", two, ("obstacle", 1, 1, ("super", -1, (1,))))
        self.wrong(1, "fault", two, ("obstacle", 1, 1, ("super", 0, (-1,))))
        # There is a ring, too: the obstacle is one, but not of the first form.
        self.wrong(2, "fault", samples.RING_AND_MORE, ("obstacle", 0, 0, ("member", 0, ())))
        self.right("fault", samples.OBSTACLE_AND_MORE, ("obstacle", 0, 0, ("member", 0, ())))

    def test_clashes(self):
        for value in oracle.clashes(samples.CLASH):
            self.right("fault", samples.CLASH, ("clash", value))
            low, high, first, second = value
            for other in ((low, high, first, first), (low, high, first), list(value), (low, high, first, second, 0), (high, low, first, second),
                          (low, high, first, (5,)), (low, high, None, second), (low, high, list(first), second), (5, high, first, second), (-1, high, first, second),
                          (low, -1, first, second), (low, True if high == 1 else False, first, second), (True, high, first, second), (low, None, first, second),
                          (low, high, first, (0, "x")), (low, high, (False,) + first[1:], second),
                          (low, high, first, (bool(second[0]),) + second[1:]), (low, high, first, list(second)), (low, high, first, None), ([low], high, first, second), (low, high, "ab", second)):
                self.wrong(1, "fault", samples.CLASH, ("clash", other))
        # Only if the table is in order, and not behind an obstacle.
        ring = samples.CLASH[:2] + ((samples.CLASH[2][0], samples.CLASH[2][1], ()), ((), ((2,), (3,)), ()))
        self.wrong(1, "fault", ring, ("clash", oracle.clashes(samples.CLASH)[0]))
        for value in oracle.clashes(samples.OBSTACLE_AND_MORE):
            self.wrong(2, "fault", samples.OBSTACLE_AND_MORE, ("clash", value))
        for value in oracle.clashes(samples.CLASH_AND_NAME):
            self.right("fault", samples.CLASH_AND_NAME, ("clash", value))

    def test_clashes_that_are_none(self):
        """Instances that become equal when the arguments of a super are put into them."""
        table = (((), ((2, (3,)),), ()), (("=",), (), ()), (("=",), ((1, "a"), (1, (3,))), ()), BARE)
        self.right("fault", table, ("clash", (2, 1, (1, "a"), (1, (3,)))))
        self.right("fault", table, ("clash", (2, 1, (1, (3,)), (1, "a"))))
        self.wrong(1, "fault", table, ("clash", (0, 1, (1, (3,)), (1, (3,)))))
        self.wrong(1, "fault", table, ("clash", (0, 1, (1, "a"), (1, (3,)))))

    def test_double_names(self):
        self.right("fault", samples.NAME, ("name", (2, 3, 0, 1)))
        for value in ((2, 3, 1, 0), (2, 4, 0, 1), (2, 3, 0, 0), (1, 3, 0, 1), (2, 3, 0, 2), [2, 3, 0, 1], (2, 3, 0), (2, 3, 0, 1, 0), (2, 3, False, True),
                      (2, 3, 0, True), (2, None, 0, 1), (None, 3, 0, 1), (2, 3, "0", 1), (-1, 3, 0, 1), (2, 3, -3, 1), (2, 3, 0, 5), None, ((2, 3), 0, 1, 1)):
            self.wrong(1, "fault", samples.NAME, ("name", value))
        for value in oracle.double_names(samples.OBSTACLE_AND_MORE):
            self.wrong(2, "fault", samples.OBSTACLE_AND_MORE, ("name", value))
        for value in oracle.double_names(samples.CLASH_AND_NAME):
            self.wrong(2, "fault", samples.CLASH_AND_NAME, ("name", value))
        ring = samples.NAME[:2] + (((), ((0,), (1,)), ()), ((), ((3,),), ()))
        self.wrong(1, "fault", ring, ("name", (2, 3, 0, 1)))

    def test_no_fault(self):
        for value in (("ring", [0]), ("obstacle", 1, 0, ("super", 0, (0,))), ("clash", (1, 0, (0, "a"), (0, "b"))), ("name", (1, 0, 0, 1))):
            self.wrong(1, "fault", EXAMPLE, value)
            self.wrong(1, "fault", (), value)
        self.wrong(0, "fault", EXAMPLE, None)

    def test_all_faults_of_tables(self):
        """Each fault by each word, of tables that have several; right exactly if it is of the first form."""
        for table in samples.TABLES:
            some = [("obstacle",) + one for one in oracle.table_obstacles(table)]
            if oracle.in_order(table):
                some += [("clash", one) for one in oracle.clashes(table)] + [("name", one) for one in oracle.double_names(table)]
            for value in some:
                self.assertEqual(check(("fault", table, value)), RIGHT if oracle.fault_ok(table, value) else ("wrong", 2), (table, value))

    def test_derivations_and_refusals(self):
        rows = [((3,), (2,), ()), ((1, (3,)), (0, (2,)), (0,))]
        self.right("derivation", EXAMPLE, (1, (3,)), (0, (2,)), rows)
        self.right("refusal", EXAMPLE, (2,), (3,), [((2,), (3,))])
        for word, good in (("derivation", rows), ("refusal", [((2,), (3,))])):
            for value in drawn.ODD + [rows, tuple(rows), [list(row) for row in rows], rows[::-1], rows[1:], [((3,), (2,), (False,))], [((3,), (2,), [])]]:
                self.wrong(1, word, EXAMPLE, (0, "x"), (0, "y"), value)
            for value in drawn.ODD + ["xy", (4,), (0,), [2], (True, "x"), (0, (0, (0, (0, (0, (0, (0, "x")))))))]:
                self.wrong(0, word, EXAMPLE, value, (2,), good)
                self.wrong(0, word, EXAMPLE, (2,), value, good)
                self.wrong(0, word, EXAMPLE, value, value, None)
            # In a sound table that is not tame, too.
            self.says((word, samples.WILD, (2,), (2,), [((2,), (2,), ())]), RIGHT if word == "derivation" else ("wrong", 1))
            self.says((word, samples.WILD, (2,), (0, (2,)), [((2,), (0, (2,))), ((1, (0, (2,))), (2,))]), RIGHT if word == "refusal" else ("wrong", 1))

    def test_levels(self):
        table = ((("+",), (), ()), (("+",), ((0, "a"),), ()), (("+",), ((0, (1, "a")),), ()), BARE)
        self.same(levels(table), ((1,), (0,), (0,), ()))
        for value in (((1,), (0,), (0,), ()), ((1,), (1,), (0,), ()), ((7,), (3,), (2,), ()), ((2,), (2,), (1,), ())):
            self.right("levels", table, value)
        self.wrong(1, "levels", table, ((1,), (2,), (0,), ()))
        self.wrong(1, "levels", table, ((0,), (1,), (0,), ()))
        # (2, 0) grows to (0, 0), and is handed plainly to (1, 0).
        self.wrong(2, "levels", table, ((1,), (1,), (1,), ()))
        self.wrong(2, "levels", table, ((0,), (0,), (0,), ()))
        for value in drawn.ODD + [((1,), (0,), (0,)), ((1,), (0,), (0,), (), ()), ((1,), (0,), (0, 0), ()), ((1,), (0,), (), ()), [(1,), (0,), (0,), ()],
                                    ([1], (0,), (0,), ()), ((True,), (0,), (0,), ()), ((1,), (False,), (0,), ()), ((1,), (-1,), (0,), ()), ((1,), (0,), (0,), (0,)),
                                    ((1,), ("0",), (0,), ()), ((1,), (None,), (0,), ()), ((1,), 0, (0,), ()), ((1,), (0,), ((0,),), ())]:
            self.wrong(0, "levels", table, value)
        for value in (((0,), (0,)), ((5,), (5,)), ((0,), (1,)), ((9,), (0,))):
            self.assertNotEqual(check(("levels", GROW, value)), RIGHT)
        self.right("levels", (), ())
        self.right("levels", samples.RING, ((), (), ()))

    def test_growing_steps_to_lower_levels(self):
        """They count for the last condition alone."""
        table = ((("+",), (), ()), (("+",), ((0, (2, "a")),), ()), (("+",), (), ()))
        self.right("levels", table, ((1,), (0,), (0,)))
        self.wrong(2, "levels", table, ((0,), (1,), (1,)))
        self.wrong(2, "levels", table, ((1,), (1,), (2,)))
        self.wrong(1, "levels", table, ((0,), (1,), (0,)))

    def test_least_levels_are_the_least(self):
        """The entries one less are no levels."""
        looked = 0
        for table in samples.TABLES:
            found = levels(table)
            for number, row in enumerate(found or ()):
                for at, level in enumerate(row):
                    if level > 0:
                        less = found[:number] + (row[:at] + (level - 1,) + row[at + 1:],) + found[number + 1:]
                        self.assertEqual(check(("levels", table, less))[0], "wrong", (table, less))
                        looked += 1
        self.assertGreater(looked, 15)

    def test_growth(self):
        plain, grows, inner = (1, 0, 0, 0, False), (1, 0, 0, 0, True), (1, 0, 1, 0, True)
        self.right("growth", GROW, [inner])
        self.right("growth", GROW, [inner, inner])
        for value in ([grows], [plain], [inner, plain], [plain, inner], [grows, inner], [inner, grows, inner]):
            self.wrong(1, "growth", GROW, value)
        for value in drawn.ODD + [[], [inner[:4]], [inner + (0,)], [list(inner)], (inner,), [(1, 0, 1, 0, 1)], [(True, 0, 1, 0, True)], [(1, False, 1, 0, True)],
                                    [(1, 0, True, 0, True)], [(1, 0, 1, False, True)], [(1, 0, 1, 0, False)], [(0, 0, 1, 0, True)], [inner, None], [inner, ()],
                                    [(1, 0, 1, 0, None)], [([1], 0, 1, 0, True)]]:
            self.wrong(0, "growth", GROW, value)
        table = ((("+",), ((1, "a"),), ()), (("+",), ((0, "a"),), ()))
        self.wrong(2, "growth", table, [(0, 0, 1, 0, False), (1, 0, 0, 0, False)])
        self.wrong(1, "growth", table, [(0, 0, 1, 0, False)])

    def test_roads(self):
        self.right("road", GROW, ["x"])
        self.right("road", GROW, [(1, "x"), (0, (1, (0, "x"))), (1, (0, "x")), (0, (1, (0, (0, "x"))))])
        self.right("road", GROW, [(1, (0, "x")), (0, "x"), "x"])
        self.right("road", EXAMPLE, [(3,), (2,)])
        for value in ([(1, "x"), (0, "x")], [(0, "x"), (1, "x")], ["x", "x"], [(0, "x"), "x", "x"], [(0, "x"), "y"], [(0, "x"), (0, "x")]):
            self.wrong(1, "road", GROW, value)
        self.right("road", GROW, ["a"])
        for value in [one for one in drawn.ODD if one != ["a"]] + [[], ((1, "x"), "x"), [(1, "x"), None], [[1, "x"]], [(1, "x"), ["x"]], [(True, "x")], [(2,)], ["xy"], "x", (1, "x"), [(1, "x", "x")]]:
            self.wrong(0, "road", GROW, value)
        deep = "x"
        for _ in range(100):
            deep = (0, deep)
        self.right("road", GROW, [deep, deep[1], deep[1][1]])
        # The table need not be sound.
        self.right("road", samples.RING, [(0,), (1,), (2,), (0,)])

    def test_reasons(self):
        table = ((("+",), (), ((0, "put", (1, "a")), (1, "both", "a"))), (("*",), (), ((2, "put", "a"),)))
        first, last = (1, 0, "-", "member", 0, "-", (), ()), (0, 0, "+", "member", 0, "-", (0,), (0,))
        rows = [first, last]
        self.right("reason", table, 0, 0, "+", rows)
        self.right("reason", table, 1, 0, "-", rows[:1])
        self.right("reason", table, 0, 0, "-", [(0, 0, "-", "member", 1, "-", (), ())])
        self.right("reason", table, 0, 0, "+", [(0, 0, "+", "member", 1, "+", (), ())])
        self.wrong(2, "reason", table, 1, 0, "-", rows)
        for use in ((0, 0, "-"), (1, 0, "+"), (False, 0, "+"), (0, False, "+"), (None, 0, "+"), (0, [0], "+"), (0, 0, ["+"]), (0, 0, None), ("0", 0, "+")):
            self.wrong(2, "reason", table, *use, rows)
        for at, value in ((2, "-"), (2, None), (2, ["+"]), (2, "*"), (5, "+"), (5, None), (5, "="), (5, ""), (7, ()), (7, [0]), (7, (1,)), (7, (-1,)), (7, (-2,)),
                          (7, (False,)), (7, (0, 0)), (7, None), (7, ("0",)), (7, ([],))):
            self.wrong(1, "reason", table, 0, 0, "+", [first, last[:at] + (value,) + last[at + 1:]])
        for at, value in ((0, 2), (0, -1), (0, False), (0, 1), (0, None), (1, 1), (1, False), (1, -1), (3, "super"), (3, "members"), (3, None), (3, ["member"]), (4, 2),
                          (4, -1), (4, False), (4, "0"), (4, 1), (6, ()), (6, (1,)), (6, (0, 0)), (6, [0]), (6, (False,)), (6, (-1,)), (6, None), (6, "0")):
            self.wrong(0, "reason", table, 0, 0, "+", [first, last[:at] + (value,) + last[at + 1:]])
        for value in drawn.ODD + [[], tuple(rows), [list(row) for row in rows], [first, last[:7]], [first, last + (0,)], [first, None], [first, last, ()]]:
            self.wrong(0, "reason", table, 0, 0, "+", value)
        # The way of a row is not that of its product, and the last row is not the use: the first condition counts.
        self.wrong(1, "reason", table, 1, 0, "+", [first[:2] + ("+",) + first[3:], last])
        self.wrong(0, "reason", table, 5, 5, 5, [first[:2] + ("+",) + first[3:], last[:4] + (9,) + last[5:]])
        # A later row names itself or one behind it.
        self.wrong(1, "reason", table, 0, 0, "+", [last, first, last])

    def test_numbers_below_0(self):
        """They are none, though Python would find the last class, parameter, super and entry by them."""
        table = ((("+", "+"), (), ((0, "get", "b"),)),)
        self.right("reason", table, 0, 1, "+", [(0, 1, "+", "member", 0, "+", (), ())])
        self.wrong(0, "reason", table, -1, 1, "+", [(-1, 1, "+", "member", 0, "+", (), ())])
        self.wrong(0, "reason", table, 0, -1, "+", [(0, -1, "+", "member", 0, "+", (), ())])
        self.wrong(0, "reason", table, 0, 1, "+", [(0, 1, "+", "member", -1, "+", (), ())])

    def test_a_row_that_uses_itself(self):
        table = ((("+",), (), ((0, "get", (0, "a")),)),)
        for number in (0, -1, 1, False):
            self.wrong(1, "reason", table, 0, 0, "+", [(0, 0, "+", "member", 0, "+", (0,), (number,))])

    def test_programs(self):
        self.right("program", EXAMPLE, PROGRAM, 1)
        self.right("program", EXAMPLE, FITTING, None)
        for value in drawn.ODD + [0, 2, True, "1", (1,), [1]]:
            self.wrong(1, "program", EXAMPLE, PROGRAM, value)
            if value is not None:
                self.wrong(1, "program", EXAMPLE, FITTING, value)
        for value in drawn.ODD + [list(PROGRAM), (PROGRAM[0], list(PROGRAM[1])), PROGRAM[::-1], (((4,),), ())]:
            self.wrong(0, "program", EXAMPLE, value, None)
        zero = (((2,), (3,)), (("copy", 1, 0),))
        self.right("program", EXAMPLE, zero, 0)
        self.wrong(1, "program", EXAMPLE, zero, False)

    def test_what_the_other_modules_return_is_right(self):
        rng = random.Random(92)
        seen = {}
        for table in samples.TABLES:
            for certificate in certificates(table, rng):
                self.says(certificate, RIGHT)
                seen[certificate[0]] = seen.get(certificate[0], 0) + 1
        self.assertEqual(set(seen), set(oracle_more.LENGTHS))
        self.assertGreater(min(seen.values()), 15, seen)

    def test_changed_certificates(self):
        """Each with changes at one to three places behind the table."""
        rng = random.Random(93)
        seen = {}
        for table in samples.TABLES:
            for certificate in certificates(table, rng):
                for _ in range(12):
                    rest = certificate[2:]
                    for _ in range(rng.choice((1, 1, 1, 2, 3))):
                        at = rng.randrange(len(rest))
                        rest = rest[:at] + (drawn.twisted(rng, rest[at], drawn.SPARE),) + rest[at + 1:]
                    value = certificate[:2] + rest
                    wanted = oracle_more.judge(value)
                    self.same(self.steady(check, value), wanted, value)
                    seen[(value[0],) + wanted] = seen.get((value[0],) + wanted, 0) + 1
        for word, many in (("fault", 2), ("derivation", 2), ("refusal", 2), ("levels", 3), ("growth", 2), ("road", 2), ("reason", 3), ("program", 2)):
            for number in range(many):
                self.assertIn((word, "wrong", number), seen, seen)

    def test_certificates_of_other_tables(self):
        """Right somewhere, looked at with another table."""
        rng = random.Random(94)
        tables = samples.SOUND
        for table in tables[::2]:
            for certificate in certificates(table, rng):
                value = (certificate[0], rng.choice(tables)) + certificate[2:]
                wanted = oracle_more.judge(value)
                if isinstance(wanted, tuple):
                    self.same(check(value), wanted, value)
                else:
                    self.assertEqual(wanted, "NotTame")
                    self.fails(NotTame, check, value)

    def test_not_a_certificate(self):
        for value in drawn.ODD + ["fault", "levels", None, ("levels",), ("levels", EXAMPLE), ["levels", EXAMPLE, ()], ("levels", EXAMPLE, (), ()), ("Levels", EXAMPLE, ()),
                                    (["levels"], EXAMPLE, ()), (0, EXAMPLE, ()), ((), EXAMPLE, ()), ("", EXAMPLE, ()), ("derivation", EXAMPLE, "x", "x"),
                                    ("refusal", EXAMPLE, "x", "x", [], []), ("fault", EXAMPLE, "ring", [0]), ("program", EXAMPLE, PROGRAM), ("keeper", EXAMPLE, (), (), []),
                                    ("reason", EXAMPLE, 0, 0, []), ("road", EXAMPLE, [], []), ("growth", EXAMPLE), (EXAMPLE, "levels", ())]:
            self.fails(NotACertificate, check, value)

    def test_errors_in_their_order(self):
        for word, length in oracle_more.LENGTHS.items():
            rest = (None,) * (length - 2)
            for value in drawn.ODD + [list(EXAMPLE)]:
                if not oracle.table_ok(value):
                    self.fails(InvalidTable, check, (word, value) + rest)
                    self.fails(NotACertificate, check, (word, value) + rest + (None,))
                    self.fails(NotACertificate, check, [word, value, *rest])
            for table in samples.OTHERS + samples.WILDS:
                value = (word, table) + rest
                if word in ("derivation", "refusal", "program") and not oracle.sound(table):
                    self.assertTrue(oracle.fault_ok(table, self.fails(Unsound, check, value).fault))
                elif word == "program":
                    self.fails(NotTame, check, value)
                else:
                    self.same(check(value)[0], "wrong")


if __name__ == "__main__":
    unittest.main()
