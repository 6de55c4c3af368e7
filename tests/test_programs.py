"""kindsunder.programs: is_program, misfit, run (points 3 and 22 to 24)."""

import random
import unittest

from kindsunder.errors import InvalidNumber, InvalidProgram, InvalidTable, NotTame, Unsound
from kindsunder.programs import is_program, misfit, run
from kindsunder.signs import with_best
from tests import drawn, oracle, oracle_more, samples
from tests.base import Case

EXAMPLE = samples.EXAMPLE
# Two boxes, and a row of each form that is right.
BOXES = ((0, (2,)), (1, (3,)))
RIGHT = [
    ("new", 0, (1, (3,)), ((0, 0), (1, 1))), ("copy", 0, 1), ("read", 1, 0, 5), ("write", 0, 9, 1), ("ask", 1, (2,), 1), ("jump", 0)]
# Class 0 has a member of each use; class 1 is under it; classes 2 and 3 are the ones to put in, 3 under 2.
SLOTS = ((("=",), (), ((0, "get", "a"), (1, "put", "a"), (2, "both", "a"))), (("=",), ((0, "a"),), ((3, "both", (2,)),)),
         ((), (), ()), ((), ((2,),), ()), ((), (), ((4, "both", (4,)),)))
OF2, OF3, UNDER = (0, (2,)), (0, (3,)), (1, (2,))


class Programs(Case):
    def yes(self, value, table=EXAMPLE):
        self.assertTrue(oracle_more.program_ok(table, value), value)
        self.assertIs(is_program(table, value), True, value)

    def no(self, value, table=EXAMPLE):
        self.assertFalse(oracle_more.program_ok(table, value), value)
        self.assertIs(is_program(table, value), False, value)

    def test_example(self):
        self.same(is_program(EXAMPLE, (((3,),), (("new", 0, (3,), ()), ("copy", 0, 1)))), False)

    def test_each_form_of_row(self):
        for row in RIGHT:
            self.yes((BOXES, (row,)))
            self.no((BOXES, (row + (0,),)))
            self.no((BOXES, (row[:-1],)))
            self.no((BOXES, (list(row),)))
            self.no((BOXES, row))
        self.yes((BOXES, tuple(RIGHT)))
        self.yes((BOXES, tuple(RIGHT + RIGHT)))

    def test_each_entry_of_a_row(self):
        """Each entry replaced by odd values and by ones that are right elsewhere."""
        wrong = 0
        for row in RIGHT:
            for at in range(len(row)):
                for value in drawn.SPARE + [True, False, [row[at]], str(row[at]), (2, "x"), "x", (4,), (0, (2,), (2,))]:
                    changed = (BOXES, (row[:at] + (value,) + row[at + 1:], ("jump", 2)))
                    self.assertIs(is_program(EXAMPLE, changed), oracle_more.program_ok(EXAMPLE, changed), changed)
                    wrong += not oracle_more.program_ok(EXAMPLE, changed)
        self.assertGreater(wrong, 1000)

    def test_words(self):
        for word in ("New", "", "jumps", "get", "ask ", None, 0, ("new",), ["new"]):
            for row in RIGHT:
                self.no((BOXES, ((word,) + row[1:],)))
        for row in ((), "jump", None, ("jump",), ["jump", 0]):
            self.no((BOXES, (row,)))

    def test_numbers_of_boxes(self):
        for many in range(9):
            (self.yes if 1 <= many <= 6 else self.no)((((3,),) * many, ()))
        for box in (0, 1):
            self.yes((BOXES, (("copy", box, 1 - box),)))
        for box in (2, 6, -1, -2, True, False, None, "0", 10 ** 30, (0,)):
            for row in (("copy", box, 0), ("copy", 0, box), ("read", box, 0, 0), ("read", 0, box, 0), ("write", box, 0, 0),
                        ("write", 0, 0, box), ("new", box, (3,), ()), ("new", 0, (3,), ((0, box),)), ("ask", box, (3,), 0)):
                self.no((BOXES, (row,)))

    def test_numbers_of_rows(self):
        for many in (0, 1, 11, 12, 13, 14, 30):
            (self.yes if many <= 12 else self.no)((((3,),), (("jump", 0),) * many))
        for many in (1, 5, 12):
            for goal in (-1, 0, many - 1, many, many + 1, True, False, None, "0", (0,)):
                for row in (("jump", goal), ("ask", 0, (3,), goal)):
                    good = type(goal) is int and 0 <= goal <= many
                    (self.yes if good else self.no)((((3,),), (row,) + (("jump", 0),) * (many - 1)))

    def test_types(self):
        deep = (0, (0, (0, (2,))))
        for value in (deep, (1, deep[1]), (2,), (0, (1, (0, (3,))))):
            self.yes(((value,), (("new", 0, value, ()), ("ask", 0, value, 0))))
        for value in ((0, deep), (0, "x"), (0, (0, "a")), "x", "a", (0,), (2, (2,)), (4,), (-1,), (True, (2,)), [2], (0, [2]), None, (),
                      (0, (0, (0, "a"))), (0, (0, (0, (0, "a"))))):
            self.no(((value,), ()))
            self.no((((2,), value), ()))
            self.no((((2,),), (("new", 0, value, ()),)))
            self.no((((2,),), (("ask", 0, value, 0),)))
        big = ((("+", "+"), (), ()), ((), (), ()))
        full = (1,)
        for _ in range(3):
            full = (0, full, full)
        self.yes(((full,), (("new", 0, full, ()),)), big)
        self.no(((full,), (("new", 0, (0, full, (1,)), ()),)), big)

    def test_values(self):
        def row(values):
            return (BOXES, (("new", 0, (3,), values),))

        for values in ((), ((0, 0),), ((9, 1),), ((0, 0), (1, 0)), ((2, 1), (5, 1), (7, 0), (9, 1))):
            self.yes(row(values))
        for values in (((0, 0), (0, 1)), ((1, 0), (0, 0)), ((0, 0), (2, 0), (1, 0)), ((0, 0), (1, 0), (2, 0), (3, 0), (4, 0)), ((10, 0),),
                       ((-1, 0),), ((True, 0),), ((0, True),), ((0,),), ((0, 0, 0),), ([0, 0],), [(0, 0)], [], None, (0, 0), "", ((0, 2),),
                       (("0", 0),), ((0, None),), ((0, 0), None), ((None, 0),)):
            self.no(row(values))

    def test_names(self):
        for name in range(10):
            self.yes((BOXES, (("read", 0, 0, name), ("write", 0, name, 0))))
        for name in (-1, 10, True, False, None, "0", (0,), [0]):
            self.no((BOXES, (("read", 0, 0, name),)))
            self.no((BOXES, (("write", 0, name, 0),)))

    def test_forms(self):
        for value in drawn.ODD + [(BOXES,), (BOXES, (), ()), [BOXES, ()], (list(BOXES), ()), (BOXES, []), (BOXES, None), (None, ()), ((), ()), BOXES]:
            self.no(value)

    def test_tables_that_are_not_sound(self):
        for table in (samples.RING, samples.OBSTACLE, samples.CLASH, samples.NAME, samples.WILD):
            pool = drawn.closed_types(table, 4)
            for one in pool:
                self.yes(((one,), (("new", 0, one, ()),)), table)
        self.no((((0,),), ()), ())

    def test_changed_programs(self):
        rng = random.Random(81)
        for table in samples.GOOD:
            pool = drawn.closed_types(table, 10, 4, 82)
            for _ in range(12 if pool else 0):
                program = drawn.draw_program(rng, table, pool, False)
                self.yes(program, table)
                for _ in range(6):
                    value = drawn.twisted(rng, program, drawn.SPARE)
                    self.assertIs(self.steady(is_program, table, value), oracle_more.program_ok(table, value), value)

    def test_errors(self):
        self.refuses_tables(is_program, (BOXES, ()))


class Misfit(Case):
    def fit(self, boxes, *rows, table=SLOTS):
        for number, row in enumerate(rows):
            self.assertIsNone(misfit(table, (boxes, (row,))), row)
        self.assertIsNone(self.steady(misfit, table, (boxes, rows)))

    def unfit(self, boxes, *rows, table=SLOTS):
        for row in rows:
            self.same(misfit(table, (boxes, (("jump", 0), row, row))), 1, row)

    def test_examples(self):
        program = (((2,), (3,)), (("new", 0, (2,), ()), ("copy", 1, 0)))
        self.same([misfit(EXAMPLE, program), run(EXAMPLE, program, 20)], [1, ("wrong", 1)])
        program = (((0, (2,)), (1, (3,)), (3,)), (("new", 2, (3,), ()), ("new", 1, (1, (3,)), ()), ("write", 1, 1, 2),
                                                  ("ask", 1, (0, (3,)), 5), ("copy", 0, 1)))
        self.same([misfit(EXAMPLE, program), run(EXAMPLE, program, 20)], [None, ("done", ((1, (3,)), (1, (3,)), (3,)))])

    def test_new(self):
        boxes = (OF2, UNDER, (2,), (3,), (4,))
        self.fit(boxes, ("new", 0, OF2, ()), ("new", 0, UNDER, ()), ("new", 1, UNDER, ()), ("new", 2, (2,), ()), ("new", 2, (3,), ()),
                 ("new", 0, OF2, ((0, 2), (1, 2), (2, 3))), ("new", 0, UNDER, ((0, 3), (3, 2))), ("new", 4, (4,), ((4, 4),)))
        self.unfit(boxes, ("new", 1, OF2, ()), ("new", 0, OF3, ()), ("new", 3, (2,), ()), ("new", 0, (2,), ()), ("new", 2, (4,), ()),
                   ("new", 0, OF2, ((3, 2),)), ("new", 2, (2,), ((0, 2),)), ("new", 0, OF2, ((0, 0),)), ("new", 0, OF2, ((0, 2), (1, 4))),
                   ("new", 0, UNDER, ((0, 2), (9, 2))))

    def test_copy(self):
        boxes = (OF2, UNDER, (2,), (3,))
        self.fit(boxes, ("copy", 0, 0), ("copy", 0, 1), ("copy", 2, 3))
        self.unfit(boxes, ("copy", 1, 0), ("copy", 3, 2), ("copy", 0, 2), ("copy", 2, 0))

    def test_read(self):
        boxes = (OF2, OF3, UNDER, (2,), (3,))
        self.fit(boxes, ("read", 3, 0, 0), ("read", 3, 0, 2), ("read", 3, 1, 0), ("read", 4, 1, 0), ("read", 3, 2, 2), ("read", 3, 2, 3))
        self.unfit(boxes, ("read", 4, 0, 0), ("read", 3, 0, 1), ("read", 3, 1, 1), ("read", 3, 0, 3), ("read", 3, 3, 0), ("read", 0, 0, 0))

    def test_write(self):
        boxes = (OF2, OF3, UNDER, (2,), (3,))
        self.fit(boxes, ("write", 0, 1, 3), ("write", 0, 1, 4), ("write", 0, 2, 3), ("write", 1, 2, 4), ("write", 2, 3, 3), ("write", 2, 3, 4))
        self.unfit(boxes, ("write", 0, 0, 3), ("write", 1, 1, 3), ("write", 0, 3, 3), ("write", 3, 1, 3), ("write", 0, 1, 0))

    def test_ask_and_jump(self):
        self.fit((OF2,), ("ask", 0, (2,), 0), ("ask", 0, OF2, 0), ("jump", 0))

    def test_the_first_row_that_does_not_fit(self):
        good, bad = ("copy", 0, 0), ("copy", 0, 1)
        for number in range(12):
            rows = (good,) * number + (bad,) + (bad, good) * 5
            self.same(misfit(SLOTS, (((2,), (4,)), rows[:12])), number)

    def test_drawn(self):
        rng = random.Random(83)
        seen = {True: 0, False: 0}
        for table in samples.GOOD + [SLOTS]:
            pool = drawn.closed_types(table, 12, 4, 84)
            for fits in (True, False) * (8 if pool else 0):
                program = drawn.draw_program(rng, table, pool, fits)
                found = self.steady(misfit, table, program)
                self.same(found, oracle_more.misfit(table, program), (table, program))
                if fits:
                    self.assertIsNone(found)
                    # What fits a table fits it with the best signs, and with one more class, too.
                    self.assertIsNone(misfit(with_best(table), program))
                    if len(table) < 5:
                        self.assertIsNone(misfit(table + (((), ((len(table) - 1,) + ((len(table),),) * len(table[-1][0]),), ()),), program))
                seen[found is None] += 1
        self.assertGreater(min(seen.values()), 100, seen)

    def test_errors(self):
        good = (((3,),), ())
        for function, more in ((misfit, ()), (run, (3,))):
            self.refuses_tables(function, good, *more)
            self.needs_sound(function, good, *more)
            self.needs_tame(function, good, *more)
            for value in drawn.ODD + [(BOXES,), (BOXES, []), (((4,),), ()), (((3,),), (("copy", 0, 1),))]:
                self.fails(InvalidProgram, function, EXAMPLE, value, *more)
        self.fails_in_order(misfit, [EXAMPLE, good], [
            (InvalidTable, 0, None), (Unsound, 0, samples.OBSTACLE_WILD), (NotTame, 0, samples.WILD), (InvalidProgram, 1, [])])


class Run(Case):
    def ends(self, boxes, rows, wanted, number=200, table=SLOTS):
        self.assertEqual(oracle_more.run(table, (boxes, tuple(rows)), number), wanted)
        self.same(self.steady(run, table, (boxes, tuple(rows)), number), wanted)

    def test_done(self):
        self.ends((OF2, (2,)), [], ("done", (None, None)))
        self.ends((OF2, (2,)), [("new", 0, UNDER, ())], ("done", (UNDER, None)))
        self.ends((OF2, (2,)), [("new", 1, (3,), ()), ("new", 0, OF2, ((0, 1),)), ("read", 1, 0, 0)], ("done", (OF2, (3,))))
        self.ends((OF2, (2,)), [("jump", 1)], ("done", (None, None)))

    def test_putting_nothing_makes_empty(self):
        self.ends(((2,), (2,)), [("new", 0, (3,), ()), ("copy", 0, 1)], ("done", (None, None)))
        self.ends((OF2, (2,)), [("new", 0, OF2, ()), ("new", 1, (2,), ()), ("read", 1, 0, 0)], ("done", (OF2, None)))
        self.ends((OF2, (2,), (2,)), [
            ("new", 1, (2,), ()), ("new", 0, OF2, ((2, 1),)), ("write", 0, 2, 2), ("read", 1, 0, 2)], ("done", (OF2, None, None)))

    def test_an_object_in_several_boxes(self):
        """What is written into it is read from it, by whatever box."""
        self.ends((OF2, OF2, (2,), (2,)), [
            ("new", 0, OF2, ()), ("copy", 1, 0), ("new", 2, (3,), ()), ("write", 0, 2, 2), ("jump", 5),
            ("read", 3, 1, 2)], ("done", (OF2, OF2, (3,), (3,))))

    def test_an_object_within_itself(self):
        self.ends(((4,), (4,)), [("new", 0, (4,), ()), ("write", 0, 4, 0), ("read", 1, 0, 4), ("read", 1, 1, 4)], ("done", ((4,), (4,))))

    def test_values_are_put_before_the_box(self):
        self.ends(((4,), (4,)), [("new", 0, (4,), ((4, 0),)), ("read", 1, 0, 4)], ("done", ((4,), None)))
        self.ends(((4,), (4,)), [("new", 0, (4,), ()), ("new", 0, (4,), ((4, 0),)), ("read", 1, 0, 4), ("read", 0, 1, 4)],
                  ("done", (None, (4,))))

    def test_empty(self):
        self.ends((OF2, (2,)), [("read", 1, 0, 0)], ("empty", 0))
        self.ends((OF2, (2,)), [("jump", 1), ("write", 0, 0, 1)], ("empty", 1))
        # Also where the name is missing, or what is put would be wrong.
        self.ends((OF2, (2,)), [("read", 1, 0, 9)], ("empty", 0))
        self.ends((OF2, OF2), [("new", 1, OF2, ()), ("write", 0, 1, 1)], ("empty", 1))

    def test_missing(self):
        self.ends((OF2, (2,)), [("new", 0, OF2, ((9, 1),))], ("missing", 0))
        self.ends((OF2, (2,)), [("new", 0, OF2, ()), ("read", 1, 0, 9)], ("missing", 1))
        self.ends((OF2, (2,)), [("new", 0, OF2, ()), ("read", 1, 0, 1)], ("missing", 1))
        self.ends((OF2, (2,)), [("new", 0, OF2, ()), ("write", 0, 0, 1)], ("missing", 1))
        self.ends((OF2, (2,)), [("new", 0, OF2, ()), ("write", 0, 3, 1)], ("missing", 1))
        # Also where something would be wrong, too.
        self.ends((OF2, (2,)), [("new", 1, OF2, ((9, 1),))], ("missing", 0))
        self.ends((OF2, OF2), [("new", 0, OF2, ()), ("new", 1, OF2, ((0, 0), (9, 0)))], ("missing", 1))
        self.ends((OF2, OF2), [("new", 0, OF2, ()), ("write", 0, 0, 0)], ("missing", 1))

    def test_the_object_counts_not_the_box(self):
        """The object in the box offers a name that the type of the box does not offer."""
        self.ends((OF2, (2,)), [("new", 0, UNDER, ()), ("write", 0, 3, 1), ("read", 1, 0, 3)], ("done", (UNDER, None)))
        self.same(misfit(SLOTS, ((OF2, (2,)), (("new", 0, UNDER, ()), ("write", 0, 3, 1)))), 1)

    def test_wrong(self):
        self.ends(((2,), (3,)), [("new", 1, (2,), ())], ("wrong", 0))
        self.ends(((2,), (3,)), [("new", 0, (2,), ()), ("copy", 1, 0)], ("wrong", 1))
        self.ends(((2,), (3,)), [("new", 0, (3,), ()), ("copy", 1, 0)], ("done", ((3,), (3,))))
        self.ends((OF3, (2,)), [("new", 1, (2,), ()), ("new", 0, OF3, ((0, 1),))], ("wrong", 1))
        self.ends((OF3, (2,)), [("new", 1, (3,), ()), ("new", 0, OF3, ((0, 1),))], ("done", (OF3, (3,))))
        self.ends((OF3, (2,)), [("new", 0, OF3, ()), ("new", 1, (2,), ()), ("write", 0, 1, 1)], ("wrong", 2))
        self.ends((OF2, (2,), (3,)), [("new", 1, (2,), ()), ("new", 0, OF2, ((0, 1),)), ("read", 2, 0, 0)], ("wrong", 2))
        self.ends((OF2, (2,), (3,)), [("new", 1, (3,), ()), ("new", 0, OF2, ((0, 1),)), ("read", 2, 0, 0)], ("done", (OF2, (3,), (3,))))

    def test_late(self):
        rows = [("jump", 0)]
        for number in (0, 1, 2, 199, 200):
            self.ends(((2,),), rows, ("late", 0), number)
        rows = [("jump", 1), ("jump", 2), ("jump", 0)]
        for number in range(0, 201, 7):
            self.ends(((2,),), rows, ("late", number % 3), number)
        # Ahead of all else, but not behind the last row.
        self.ends((OF2, (2,)), [("read", 1, 0, 0)], ("late", 0), 0)
        self.ends((OF2, (2,)), [("read", 1, 0, 0)], ("empty", 0), 1)
        self.ends((OF2, (2,)), [("new", 0, OF2, ())] * 2, ("late", 1), 1)
        self.ends((OF2, (2,)), [("new", 0, OF2, ())] * 2, ("done", (OF2, None)), 2)
        self.ends((OF2,), [], ("done", (None,)), 0)

    def test_ask(self):
        for value, wanted in ((OF2, OF2), (UNDER, None), (OF3, None), ((2,), None)):
            self.ends((OF2, OF2), [("new", 0, OF2, ()), ("ask", 0, value, 3), ("copy", 1, 0)], ("done", (OF2, wanted)))
        self.ends((OF2, OF2), [("new", 0, UNDER, ()), ("ask", 0, OF2, 3), ("copy", 1, 0)], ("done", (UNDER, UNDER)))
        self.ends((OF2, OF2), [("ask", 0, OF2, 2), ("read", 0, 1, 0)], ("done", (None, None)))
        self.ends((OF2, OF2), [("ask", 0, OF2, 0)], ("late", 0))

    def test_drawn(self):
        rng = random.Random(85)
        seen = {}
        for table in samples.GOOD + [SLOTS] * 20:
            pool = drawn.closed_types(table, 12, 4, 86)
            for at in range(12 if pool else 0):
                program = drawn.draw_program(rng, table, pool, at % 3 == 0)
                for number in (0, 1, 3, rng.randrange(201), 200):
                    wanted = oracle_more.run(table, program, number)
                    self.same(run(table, program, number), wanted, (table, program, number))
                    row = program[1][wanted[1]][0] if wanted[0] != "done" else ""
                    seen[wanted[0], row] = seen.get((wanted[0], row), 0) + 1
                    if at % 3 == 0:
                        self.assertNotIn(wanted[0], ("missing", "wrong"))
                self.steady(run, table, program, 20)
        for key in (("done", ""), ("late", "jump"), ("late", "ask"), ("empty", "read"), ("empty", "write"), ("missing", "new"),
                    ("missing", "read"), ("missing", "write"), ("wrong", "new"), ("wrong", "copy"), ("wrong", "write")):
            self.assertIn(key, seen, seen)

    def test_numbers(self):
        program = (((3,),), (("jump", 0),))
        for value in (0, 1, 100, 200):
            self.same(run(EXAMPLE, program, value), ("late", 0))
        for value in drawn.ODD + [201, 1000, -1, "3", (3,), [3]]:
            if not (type(value) is int and 0 <= value <= 200):
                self.fails(InvalidNumber, run, EXAMPLE, program, value)

    def test_errors(self):
        self.fails_in_order(run, [EXAMPLE, (((3,),), ()), 5], [
            (InvalidTable, 0, []), (Unsound, 0, samples.OBSTACLE_WILD), (NotTame, 0, samples.GROW), (InvalidProgram, 1, None),
            (InvalidNumber, 2, 201)])
        self.fails_in_order(run, [EXAMPLE, (((3,),), ()), 5], [(InvalidProgram, 1, (((True,),), ())), (InvalidNumber, 2, True)])


if __name__ == "__main__":
    unittest.main()
