"""kindsunder.desk: Desk (points 3, 25, 27 and 38)."""

import copy
import inspect
import random
import unittest
from unittest import mock

from kindsunder import errors
from kindsunder.bench import Bench
from kindsunder.desk import Desk
from kindsunder.errors import Full, InvalidClass, InvalidMark, InvalidSign, InvalidType, Unsound
from kindsunder.wrongs import Barred, Barren, InvalidCall, InvalidSide, InvalidUnknown
from tests import bounded, drawn, oracle, oracle_bounds, oracle_calls, oracle_more, samples, test_bench
from tests.base import Case

EXAMPLE = samples.EXAMPLE
BARE = ((), (), ())
NONE = ((), ())
METHODS = ("unknown", "call", "bound", "bounds_of", "guess", "settled", "moved")


def desk_of(table):
    """A desk with just this table, whose classes may need later ones."""
    desk = Desk()
    for row in table:
        desk.add_class((("=",) * len(row[0]), (), ()))
    for number, row in enumerate(table):
        for shape in row[1]:
            desk.add_super(number, shape)
        for member in row[2]:
            desk.add_member(number, *member)
    # A sign may be allowed only when those of other classes are set.
    for _ in table:
        for number, row in enumerate(table):
            test_bench.called(desk, ("set_signs", number, row[0]))
    assert desk.table == table
    return desk


# All that a bench does, a desk does, too: the tests of the bench once more, with a desk.

class OnADesk(Case):
    def setUp(self):
        patch = mock.patch("tests.test_bench.Bench", Desk)
        patch.start()
        self.addCleanup(patch.stop)


class Changes(OnADesk, test_bench.Changes):
    pass


class Watching(OnADesk, test_bench.Watching):
    pass


class Marks(OnADesk, test_bench.Marks):
    pass


class Histories(OnADesk, test_bench.Histories):
    pass


class Apart(OnADesk, test_bench.Apart):
    pass


class Examples(Case):
    def test_example(self):
        desk = Desk()
        numbers = [desk.add_class(one) for one in EXAMPLE]
        number = desk.unknown()
        desk.bound(number, "lower", (3,))
        first = (desk.guess(number), desk.settled())
        desk.bound(number, "upper", (3,))
        self.same([numbers, number, first, desk.settled(), desk.moved()], [[0, 1, 2, 3], 0, ((2,), []), [0], [(0, (3,))]])

    def test_methods_stand_in_the_class_itself(self):
        self.assertTrue(issubclass(Desk, Bench))
        self.assertEqual(Desk.__module__, "kindsunder.desk")
        for name in METHODS + test_bench.METHODS:
            self.assertTrue(inspect.isfunction(vars(Desk)[name]), name)
        self.assertIsInstance(vars(Desk)["table"], property)
        with self.assertRaises(AttributeError):
            Desk().table = ()

    def test_a_new_desk(self):
        desk = Desk()
        self.same([desk.table, desk.answers(), desk.news(), desk.settled(), desk.moved()], [(), [], [], [], []])
        for function, more in ((desk.bounds_of, []), (desk.guess, []), (desk.bound, ["lower", (0,)])):
            self.fails(InvalidUnknown, function, 0, *more)
        self.same(self.fails(Barren, desk.unknown).floors, [(NONE, None)])
        self.fails(InvalidCall, desk.call, ((1, (), "a"), (), None)[:2])
        self.same(self.fails(Barren, desk.call, ((1, (), "a"), (), None)).floors, [(NONE, None)])

    def test_what_calls_return(self):
        desk = desk_of(EXAMPLE)
        self.same([desk.unknown(), desk.unknown()], [0, 1])
        self.assertIsNone(desk.bound(1, "upper", (3,)))
        self.assertIsNone(desk.bound(1, "upper", (3,)))
        self.same([desk.call(((2, ("b",), "a"), ((3,),), None)), desk.call(((0, (), (2,)), (), None)), desk.call(((1, (), "a"), (), (3,)))], [(2, 3), (), (4,)])
        self.same([desk.bounds_of(number) for number in range(5)], [NONE, ((), ((3,),)), NONE, (((3,),), ()), ((), ((3,),))])
        self.same([desk.guess(number) for number in range(5)], [(2,), (3,), (2,), (2,), (3,)])
        self.same([desk.settled(), desk.moved(), desk.moved()], [[1, 4], [(1, (3,))], []])


class Unknowns(Case):
    def test_six_unknowns(self):
        desk = desk_of(EXAMPLE)
        self.same([desk.unknown() for _ in range(5)], [0, 1, 2, 3, 4])
        two = (2, (), "a")
        self.same(self.fails(Full, desk.call, (two, (), None)).limit, 6)
        self.same(self.fails(Full, desk.call, ((2, ("a", (2,)), "a"), ((2,), (0, (2,))), None)).limit, 6)
        self.same(desk.call(((1, (), "a"), (), None)), (5,))
        self.same(self.fails(Full, desk.unknown).limit, 6)
        # A call without letters needs no room, but may be barred.
        self.same(desk.call(((0, ((2,),), (2,)), ((3,),), None)), ())
        self.same(self.fails(Barred, desk.call, ((0, ((3,),), (2,)), ((2,),), None)).pairs, [((2,), (3,))])
        self.fails(InvalidCall, desk.call, None)
        self.fails(Full, desk.call, ((1, ((3,),), (2,)), ((2,),), None))
        self.same([desk.bounds_of(number) for number in range(6)], [NONE] * 6)

    def test_errors_of_calls_in_their_order(self):
        desk = desk_of(EXAMPLE)
        for value in drawn.ODD + [((1, ("a",), (2,)), ((2,), (2,)), None), ((1, ("b",), (2,)), ((2,),), None), ((1, ("a",), (2,)), ("x",), None)]:
            self.fails(InvalidCall, desk.call, value)
        # Barred, and with barren bounds of a letter.
        both = ((1, ("a", "a", (3,)), "a"), ((2,), (0, (2,)), (2,)), None)
        self.assertTrue(oracle_calls.call_bar_ok(desk.table, both, self.fails(Barred, desk.call, both).pairs))
        # Of two letters with barren bounds, and of one behind one that is not barren.
        poor, other = (((0, (2,)), (2,)), ()), (((0, (3,)), (3,)), ())
        for parameters, arguments, wanted in (
                (("b", "b"), ((0, (2,)), (2,)), poor), (("a", "a"), ((2,), (0, (2,))), poor), (("b", "b"), ((3,), (0, (3,))), other)):
            floors = self.fails(Barren, desk.call, ((2, parameters, (2,)), arguments, None)).floors
            self.assertTrue(oracle_bounds.floors_ok(desk.table, wanted, floors) and floors[0] == (wanted, None))
        pairs = desk_of(bounded.PAIRS)
        call = ((2, ("b", (0, "a", "b"), "a"), "b"), ((1,), (0, (1,), (1,)), (0, (1,), (1,))), None)
        limits = oracle_calls.opened(pairs.table, call)
        poor = [one for one in limits if oracle_bounds.barren(pairs.table, one)]
        self.assertTrue(poor)
        floors = self.fails(Barren, pairs.call, call).floors
        self.assertTrue(floors[0] == (poor[0], None) and oracle_bounds.floors_ok(pairs.table, poor[0], floors))
        self.same([desk.settled(), desk.moved(), pairs.settled()], [[], [], []])

    def test_errors_of_bound_in_their_order(self):
        desk = desk_of(EXAMPLE)
        desk.unknown()
        for value in drawn.ODD + [1, -1, "0", (0,), True, False]:
            if not (oracle.whole(value) and value == 0):
                self.same(self.fails(InvalidUnknown, desk.bound, value, None, None).number, value)
                self.same(self.fails(InvalidUnknown, desk.bounds_of, value).number, value)
                self.same(self.fails(InvalidUnknown, desk.guess, value).number, value)
        for value in drawn.ODD + ["Lower", "low", 0, ["lower"], ("lower",), "upper ", None]:
            if value not in ("lower", "upper"):
                self.fails(InvalidSide, desk.bound, 0, value, None)
        for value in drawn.ODD + ["a", (0, "a"), (4,), (0,), [2], (True,)]:
            self.fails(InvalidType, desk.bound, 0, "lower", value)
        for one in ((0, (2,)), (0, (3,)), (1, (3,))):
            desk.bound(0, "lower", one)
        for one in ((2,), (0, (0, (2,)))):
            self.same(self.fails(Full, desk.bound, 0, "lower", one).limit, 3)
        for one in ((0, (2,)), (0, (3,)), (1, (3,))):
            self.assertIsNone(desk.bound(0, "lower", one))
        self.fails(InvalidType, desk.bound, 0, "lower", "a")
        floors = self.fails(Barren, desk.bound, 0, "upper", (3,)).floors
        wanted = (((0, (2,)), (0, (3,)), (1, (3,))), ((3,),))
        self.assertTrue(oracle_bounds.floors_ok(desk.table, wanted, floors) and floors[0] == (wanted, None))
        self.same(desk.bounds_of(0), (wanted[0], ()))

    def test_a_side_with_more_than_three_types(self):
        """A call may bring more; then no more are added."""
        desk = desk_of(bounded.TREES)
        lower = [(2,), (3, (1,)), (3, (2,)), (1,), (3, (3, (1,))), (3, (3, (2,)))]
        call = ((1, ((0, "a", "a"),) * 3, "a"), tuple([(0,) + tuple(lower[at:at + 2]) for at in (0, 2, 4)]), None)
        self.same(desk.call(call), (0,))
        self.same(desk.bounds_of(0), (tuple(sorted(lower)), ()))
        self.same(self.fails(Full, desk.bound, 0, "lower", (3, (3, (3, (1,))))).limit, 3)
        self.assertIsNone(desk.bound(0, "lower", (3, (3, (2,)))))
        self.assertIsNone(desk.bound(0, "upper", (1,)))

    def test_types_of_any_size(self):
        desk = desk_of(EXAMPLE)
        desk.unknown()
        deep = (2,)
        for _ in range(60):
            deep = (0, deep)
        desk.bound(0, "lower", deep)
        desk.bound(0, "upper", deep)
        self.same([desk.guess(0), desk.settled(), desk.moved()], [deep, [0], [(0, deep)]])

    def test_in_ascending_order(self):
        desk = desk_of(EXAMPLE)
        desk.unknown()
        for one in ((3,), (2,)):
            desk.bound(0, "lower", one)
        desk.unknown()
        desk.bound(1, "upper", (0, (2,)))
        self.fails(Barren, desk.bound, 1, "upper", (0, (0, (2,))))
        desk.bound(1, "upper", (1, (3,)))
        self.same([desk.bounds_of(0), desk.bounds_of(1)], [(((2,), (3,)), ()), ((), ((0, (2,)), (1, (3,))))])

    def test_set_signs(self):
        desk = desk_of(((("+",), (), ()), BARE, ((), ((1,),), ())))
        for number in range(3):
            desk.unknown()
        for number in (1, 2):
            desk.bound(number, "lower", (0, (2,)))
            desk.bound(number, "upper", (0, (1,)))
        desk.bound(2, "lower", (0, (1,)))
        before = desk.table
        for sign in "-=":
            floors = self.fails(Barren, desk.set_signs, 0, (sign,)).floors
            self.same(desk.table, before)
            after = (((sign,), (), ()),) + before[1:]
            wanted = (((0, (2,)),), ((0, (1,)),))
            self.assertTrue(floors[0] == (wanted, None) and oracle_bounds.floors_ok(after, wanted, floors), floors)
        self.fails(InvalidClass, desk.set_signs, 3, ("-",))
        self.fails(InvalidSign, desk.set_signs, 0, "-")
        desk.add_member(0, 1, "get", "a")
        self.fails(Unsound, desk.set_signs, 0, ("-",))
        self.fails(Barren, desk.set_signs, 0, ("=",))
        self.assertIsNone(desk.set_signs(1, ()))
        self.same([desk.guess(number) for number in range(3)], [(1,), (0, (1,)), (0, (1,))])
        self.same([desk.settled(), desk.moved()], [[2], [(1, (0, (1,))), (2, (0, (1,)))]])

    def test_signs_that_leave_keepers(self):
        desk = desk_of(((("=",), (), ()), BARE, ((), ((1,),), ())))
        desk.unknown()
        desk.bound(0, "lower", (0, (2,)))
        self.same([desk.guess(0), desk.settled(), desk.moved()], [(0, (2,)), [0], [(0, (0, (2,)))]])
        desk.set_signs(0, ("*",))
        self.same([desk.guess(0), desk.settled(), desk.moved()], [(0, (1,)), [0], [(0, (0, (1,)))]])
        desk.set_signs(0, ("+",))
        self.same([desk.guess(0), desk.settled(), desk.moved()], [(0, (1,)), [], []])

    def test_settled(self):
        """All types that keep the bounds are alike, not just equal."""
        desk = desk_of(((("*",), (), ()), BARE, (("+",), (), ())))
        for number, (side, one) in enumerate((("lower", (0, (1,))), ("upper", (0, (1,))), ("upper", (1,)), ("lower", (2, (0, (1,)))), ("upper", (2, (1,))))):
            desk.unknown()
            desk.bound(number, side, one)
        self.same(desk.settled(), [0, 1, 2, 3, 4])
        desk.add_super(1, (0, (1,)))
        self.same(desk.settled(), [0, 2, 3, 4])
        desk.bound(1, "lower", (0, (1,)))
        self.same(desk.settled(), [0, 1, 2, 3, 4])


class Moves(Case):
    def test_what_moves_and_moves_back_is_not_told(self):
        desk = desk_of(EXAMPLE)
        desk.unknown()
        desk.mark()
        desk.bound(0, "upper", (3,))
        desk.mark()
        self.same(desk.moved(), [(0, (3,))])
        self.same(desk.moved(), [])
        desk.back(1)
        self.same([desk.moved(), desk.moved()], [[(0, (3,))], []])
        desk.back(0)
        self.same([desk.moved(), desk.bounds_of(0)], [[], NONE])
        desk.bound(0, "lower", (3,))
        self.same(desk.moved(), [])

    def test_new_classes_move(self):
        """A first keeper may move when classes and supers are added; no keeper is taken away."""
        desk = desk_of(((("+",), (), ()), BARE))
        desk.unknown()
        desk.bound(0, "lower", (0, (1,)))
        desk.unknown()
        self.same([desk.guess(0), desk.guess(1)], [(0, (1,)), (1,)])
        desk.add_class(BARE)
        desk.add_super(0, (2,))
        self.same([desk.moved(), desk.moved()], [[(0, (2,))], []])

    def test_a_new_unknown_is_told(self):
        desk = desk_of(EXAMPLE)
        desk.call(((2, ("a", (0, "b")), "a"), ((3,), (1, (3,))), None))
        self.same(desk.moved(), [])
        desk.bound(1, "upper", (3,))
        self.same(desk.moved(), [(1, (3,))])


class DeskMarks(Case):
    def test_unknowns_come_and_go(self):
        desk = desk_of(EXAMPLE)
        for number in range(6):
            self.same(desk.mark(), number)
            self.same(desk.unknown(), number)
        self.same(self.fails(Full, desk.mark).limit, 6)
        for number in (5, 3, 3, 0):
            desk.back(number)
            self.fails(InvalidUnknown, desk.bounds_of, number)
            self.same(desk.settled(), [])
            self.fails(InvalidMark, desk.back, number + 1)
            self.same([desk.unknown(), desk.bounds_of(number)], [number, NONE])
        self.same(desk.mark(), 1)

    def test_marks_made_after_a_return(self):
        """A mark that is made after a return has what there was then, not what an earlier one with its number had."""
        desk = desk_of(EXAMPLE)
        desk.mark()
        for number in range(2):
            desk.unknown()
            desk.bound(number, "lower", (3,))
            desk.mark()
        desk.back(0)
        self.same(desk.mark(), 1)
        desk.unknown()
        desk.bound(0, "upper", (3,))
        self.same(desk.mark(), 2)
        desk.unknown()
        desk.moved()
        for number, wanted in ((2, [((), ((3,),))]), (2, [((), ((3,),))]), (1, []), (1, []), (0, [])):
            desk.back(number)
            self.same([desk.bounds_of(at) for at in range(len(wanted))], wanted)
            self.fails(InvalidUnknown, desk.bounds_of, len(wanted))
            if number == 2:
                self.same(desk.moved(), [(0, (3,))])

    def test_bounds_come_back(self):
        desk = desk_of(EXAMPLE)
        desk.unknown()
        desk.bound(0, "lower", (3,))
        desk.mark()
        for side, one in (("upper", (2,)), ("lower", (2,))):
            desk.bound(0, side, one)
        desk.mark()
        desk.set_signs(0, ("=",))
        desk.back(1)
        self.same([desk.bounds_of(0), desk.table[0][0]], [(((2,), (3,)), ((2,),)), ("+",)])
        desk.back(0)
        self.same(desk.bounds_of(0), (((3,),), ()))

    def test_two_desks(self):
        one, two = desk_of(EXAMPLE), desk_of(EXAMPLE)
        one.unknown()
        one.mark()
        self.fails(InvalidUnknown, two.guess, 0)
        self.fails(InvalidMark, two.back, 0)
        two.unknown()
        two.bound(0, "upper", (3,))
        self.same([one.bounds_of(0), one.settled(), two.settled()], [NONE, [], [0]])

    def test_what_is_returned_may_be_changed(self):
        desk = desk_of(EXAMPLE)
        desk.unknown()
        desk.bound(0, "upper", (3,))
        poor = ((1, ("a", "a"), "a"), ((2,), (0, (2,))), None)
        barred = ((1, ("a",), (2,)), ((2,),), (3,))
        for _ in range(2):
            desk.settled().append(7)
            error = self.fails(Barren, desk.call, poor)
            self.assertTrue(oracle_bounds.floors_ok(EXAMPLE, error.floors[0][0], error.floors))
            error.floors.clear()
            error = self.fails(Barred, desk.call, barred)
            self.same(error.pairs, [((2,), (3,))])
            error.pairs.append(None)
            error = self.fails(Barren, desk.bound, 0, "lower", (2,))
            self.assertTrue(oracle_bounds.floors_ok(EXAMPLE, (((2,),), ((3,),)), error.floors))
            error.floors.append(None)
        self.same([desk.settled(), desk.moved()], [[0], [(0, (3,))]])
        self.same(desk.moved(), [])


class Beside(test_bench.Beside):
    """The desk once more, by the words of the document: what each call returns, or the name of its error.

    Poor are the bounds whose floors, and barred the call whose bar, the error of the last call keeps.
    """

    def __init__(self):
        super().__init__()
        self.limits, self.guesses, self.left = [], [], []
        self.poor = self.barred = None

    def keeper(self, number):
        return oracle_bounds.first_keeper(self.table, self.limits[number])

    def known(self, number):
        return oracle.whole(number) and 0 <= number < len(self.limits)

    def make(self, some):
        for bounds in some:
            if oracle_bounds.barren(self.table, bounds):
                self.poor = (self.table, bounds)
                return "Barren"
        numbers = tuple(range(len(self.limits), len(self.limits) + len(some)))
        self.limits += some
        self.guesses += [self.keeper(number) for number in numbers]
        return numbers

    def unknown(self):
        if len(self.limits) == 6:
            return "Full"
        found = self.make([NONE])
        return found if found == "Barren" else found[0]

    def call(self, value):
        if not oracle_calls.call_ok(self.table, value):
            return "InvalidCall"
        if len(self.limits) + value[0][0] > 6:
            return "Full"
        found = oracle_calls.opened(self.table, value)
        if found is None:
            self.barred = value
            return "Barred"
        return self.make(list(found))

    def bound(self, number, side, closed):
        if not self.known(number):
            return "InvalidUnknown"
        if type(side) is not str or side not in ("lower", "upper"):
            return "InvalidSide"
        if not oracle_more.closed_ok(self.table, closed):
            return "InvalidType"
        at = ("lower", "upper").index(side)
        sides = list(self.limits[number])
        if closed in sides[at]:
            return None
        if len(sides[at]) >= 3:
            return "Full"
        sides[at] = tuple(sorted(sides[at] + (closed,)))
        if oracle_bounds.barren(self.table, tuple(sides)):
            self.poor = (self.table, tuple(sides))
            return "Barren"
        self.limits[number] = tuple(sides)
        return None

    def bounds_of(self, number):
        return self.limits[number] if self.known(number) else "InvalidUnknown"

    def guess(self, number):
        return self.keeper(number) if self.known(number) else "InvalidUnknown"

    def settled(self):
        return [number for number, bounds in enumerate(self.limits)
                if oracle_bounds.is_inside(self.table, bounds, ((self.keeper(number),), (self.keeper(number),)))]

    def moved(self):
        now = [self.keeper(number) for number in range(len(self.limits))]
        found = [(number, one) for number, one in enumerate(now) if one != self.guesses[number]]
        self.guesses = now
        return found

    def set_signs(self, number, signs):
        before = self.table
        found = super().set_signs(number, signs)
        if found is None:
            poor = [bounds for bounds in self.limits if oracle_bounds.barren(self.table, bounds)]
            if poor:
                self.poor = (self.table, poor[0])
                self.table = before
                return "Barren"
        return found

    def mark(self):
        found = super().mark()
        if found != "Full":
            self.left.append((list(self.limits), list(self.guesses)))
        return found

    def back(self, number):
        found = super().back(number)
        if found is None:
            self.limits, self.guesses = [list(one) for one in self.left[number]]
            self.left = self.left[:number + 1]
        return found


class DeskHistories(Case):
    def call(self, rng, beside, goal):
        """A call that is drawn, some of them wrong."""
        table = beside.table
        name = rng.choice(("unknown",) * 3 + ("call",) * 3 + ("bound",) * 9 + ("bounds_of", "guess", "settled", "moved", "moved", "moved") + ("mark", "back", "back")
                          + ("set_signs",) * 3 + ("improve", "add_class", "add_super", "add_member", "watch", "news", "answers"))
        pool = bounded.pool_of(table, 10, rng.randrange(5))
        number = rng.randrange(len(beside.limits)) if beside.limits and rng.random() < 0.95 else rng.choice((-1, len(beside.limits), True, None, "0"))
        row = rng.randrange(len(table)) if table else 0
        if name == "bound":
            closed = rng.choice(pool) if pool else (0,)
            if oracle.whole(number) and number >= 0 and number < len(beside.limits) and pool and rng.random() < 0.6:
                middle = beside.keeper(number)
                side = rng.choice(("lower", "upper"))
                some = [one for one in pool if oracle_bounds.under(table, *((one, middle) if side == "lower" else (middle, one)))]
                call = [name, number, side, rng.choice(some or pool)]
            else:
                call = [name, number, rng.choice(("lower", "upper")), closed]
        elif name == "call":
            value = bounded.call(rng, table, pool) if pool else None
            call = [name, value]
        elif name in ("bounds_of", "guess"):
            call = [name, number]
        elif name == "back":
            call = [name, rng.randrange(-1, len(beside.marks) + 2)]
        elif name == "set_signs":
            call = [name, row, tuple([rng.choice("+-=*") for _ in (table[row][0] if table else ())])]
        elif name == "add_class":
            call = [name, rng.choice((BARE, (("+",), (), ()), rng.choice(goal)))]
        elif name == "add_super":
            call = [name, row, rng.choice(pool + [shape for one in goal for shape in one[1]] or [(0,)])]
        elif name == "add_member":
            call = [name, row, rng.randrange(10), rng.choice(("get", "put", "both")), rng.choice(("a", (0,)))]
        elif name == "watch":
            call = [name, rng.choice(pool or ["x"]), rng.choice(pool or ["x"])]
        else:
            call = [name]
        if rng.random() < 0.06 and len(call) > 1:
            at = rng.randrange(1, len(call))
            call[at] = drawn.twisted(rng, call[at], drawn.SPARE)
        return tuple(call)

    def state(self, target):
        if isinstance(target, Desk):
            found = [target.bounds_of(number) for number in range(6) if test_bench.called(target, ("bounds_of", number)) != "InvalidUnknown"]
            return [target.table, target.answers(), found, [target.guess(number) for number in range(len(found))], target.settled()]
        return [target.table, target.answers(), list(target.limits), [target.keeper(number) for number in range(len(target.limits))], target.settled()]

    def step(self, desk, beside, call):
        """One call of both; returns what the second one returns."""
        before = copy.deepcopy(call)
        was = self.state(beside)
        beside.poor = beside.barred = None
        wanted = test_bench.called(beside, call)
        try:
            found = getattr(desk, call[0])(*call[1:])
        except errors.KindError as error:
            found = type(error).__name__
            if found == "Barren":
                table, bounds = beside.poor
                self.assertTrue(oracle_bounds.floors_ok(table, bounds, error.floors) and error.floors[0] == (bounds, None), (call, error.floors))
            if found == "Barred":
                self.assertTrue(oracle_calls.call_bar_ok(beside.table, beside.barred, error.pairs), (call, error.pairs))
            if found == "Full":
                self.assertEqual(error.limit, {"bound": 3, "add_class": 5}.get(call[0], 6))
            if found == "InvalidUnknown":
                self.same(error.number, call[1])
        self.same(found, wanted, (was, call))
        self.same(call, before, "an argument is modified")
        if isinstance(found, list):
            found.append("changed")
        self.same(self.state(desk), self.state(beside), call)
        if isinstance(wanted, str):
            self.same(self.state(beside), was)
        for bounds in beside.limits:
            self.assertFalse(oracle_bounds.barren(beside.table, bounds))
        return (call[0], wanted) if isinstance(wanted, str) else (call[0], wanted not in ([], None, ()))

    def test_drawn_histories(self):
        seen = {}
        for seed in range(110):
            rng = random.Random(2000 + seed)
            goal = bounded.TABLES[seed % len(bounded.TABLES)] or EXAMPLE
            desk, beside = Desk(), Beside()
            calls = [("add_class", (("=",) * len(row[0]), (), ())) for row in goal[:rng.choice((5, 5, 4))]]
            calls += [("add_super", number, shape) for number, row in enumerate(goal) for shape in row[1]]
            calls += [("set_signs", number, row[0]) for number, row in enumerate(goal)]
            for call in calls:
                self.step(desk, beside, call)
            for _ in range(45):
                calls.append(self.call(rng, beside, goal))
                key = self.step(desk, beside, calls[-1])
                seen[key] = seen.get(key, 0) + 1
            again = Desk()
            for call in calls:
                test_bench.called(again, call)
            self.same(self.state(again), self.state(desk), "equal calls give equal results")
            self.same(again.moved(), desk.moved())
        for key in (("unknown", "Full"), ("call", "InvalidCall"), ("call", "Full"), ("call", "Barred"), ("call", "Barren"), ("call", True), ("bound", "InvalidUnknown"),
                    ("bound", "InvalidType"), ("bound", "Full"), ("bound", "Barren"), ("bound", False), ("guess", True), ("guess", "InvalidUnknown"), ("bounds_of", "InvalidUnknown"),
                    ("settled", True), ("settled", False), ("moved", True), ("moved", False), ("set_signs", "Barren"), ("set_signs", False), ("back", False), ("back", "InvalidMark"),
                    ("improve", False), ("add_class", "Full"), ("add_super", False), ("add_super", "Unsound")):
            self.assertIn(key, seen, sorted(map(str, seen.items())))
            self.assertGreater(seen[key], 2, key)


if __name__ == "__main__":
    unittest.main()
