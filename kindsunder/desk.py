"""A desk: a bench that also keeps unknown types between bounds."""

from kindsunder.basics import is_number
from kindsunder.bench import Bench
from kindsunder.bounds import check_closed
from kindsunder.calls import check_call, limits_of_call
from kindsunder.errors import Full
from kindsunder.extremes import does_cover
from kindsunder.keepers import floors_in
from kindsunder.wants import SIDES, ascending
from kindsunder.webs import Web
from kindsunder.wrongs import Barred, Barren, InvalidSide, InvalidUnknown

MOST_UNKNOWNS = 6
MOST_BOUNDING = 3


def keepers_of(scope, limits):
    """The tuple of the first keepers of some bounds. Raises Barren with floors of the first barren ones."""
    found = ()
    for bounds in limits:
        web = Web(scope, [bounds])
        if web.firsts[0] is None:
            raise Barren(floors_in(web))
        found = found + (web.firsts[0],)
    return found


def is_settled(scope, bounds):
    """True if all keepers of bounds are alike."""
    web = Web(scope, [bounds])
    return does_cover(web, 0, ((web.firsts[0],), (web.firsts[0],)))


class Desk(Bench):
    """A bench with unknowns, each of which has bounds that are not barren.

    As on a bench, what a mark has to keep is replaced, never changed: the tuple of the bounds of the unknowns, and the
    tuple of the first keepers that were told last.
    """

    def __init__(self):
        Bench.__init__(self)
        self._limits = ()
        self._guesses = ()
        self._left = []

    @property
    def table(self):
        """The table."""
        return self._scope.rows

    def add_class(self, class_value):
        """Add a class to the table; returns its number."""
        return super().add_class(class_value)

    def add_super(self, class_number, super_value):
        """Add a super to a class."""
        super().add_super(class_number, super_value)

    def add_member(self, class_number, name, use, type_value):
        """Add a member to a class."""
        super().add_member(class_number, name, use, type_value)

    def set_signs(self, class_number, signs):
        """Change the signs of a class, if each unknown has a keeper then."""
        scope = self._with_signs(class_number, signs)
        keepers_of(scope, self._limits)
        self._scope = scope

    def improve(self):
        """Change all signs to the best ones."""
        super().improve()

    def watch(self, s, t):
        """Watch a pair of types; returns its number."""
        return super().watch(s, t)

    def news(self):
        """Tell the list of tuples (number, answer) of the watched pairs whose answer is not the one told last."""
        return super().news()

    def paper(self, number):
        """A tuple ("derivation", rows) or ("refusal", road) for the watched pair with this number."""
        return super().paper(number)

    def mark(self):
        """Make a mark; returns its number."""
        number = super().mark()
        self._left = self._left + [(self._limits, self._guesses)]
        return number

    def back(self, number):
        """Go back to what was when the mark was made, and remove the later marks."""
        super().back(number)
        self._limits, self._guesses = self._left[number]
        self._left = self._left[:number + 1]

    def answers(self):
        """The list of the answers of the watched pairs."""
        return super().answers()

    def unknown(self):
        """Make a new unknown; returns its number."""
        self._check_room(1)
        return self._make((((), ()),))[0]

    def call(self, call):
        """Make an unknown for each letter of a call; returns the tuple of their numbers."""
        check_call(self._scope.heads, call)
        self._check_room(call[0][0])
        limits, road = limits_of_call(self._scope, call)
        if limits is None:
            raise Barred(road)
        return self._make(limits)

    def bound(self, number, side, closed):
        """Add a closed type to a side of the bounds of an unknown."""
        self._check_unknown(number)
        if side not in SIDES:
            raise InvalidSide("this is not a side")
        check_closed(self._scope, closed)
        lower, upper = self._limits[number]
        types = lower if side == "lower" else upper
        if closed in types:
            return
        if len(types) >= MOST_BOUNDING:
            raise Full(MOST_BOUNDING)
        grown = ascending(types + (closed,))
        limits = (grown, upper) if side == "lower" else (lower, grown)
        keepers_of(self._scope, [limits])
        self._limits = self._limits[:number] + (limits,) + self._limits[number + 1:]

    def bounds_of(self, number):
        """The bounds of an unknown."""
        self._check_unknown(number)
        return self._limits[number]

    def guess(self, number):
        """The first keeper of the bounds of an unknown."""
        self._check_unknown(number)
        return keepers_of(self._scope, [self._limits[number]])[0]

    def settled(self):
        """The ascending list of the numbers of the unknowns all of whose keepers are alike."""
        return [number for number, bounds in enumerate(self._limits) if is_settled(self._scope, bounds)]

    def moved(self):
        """Tell the list of tuples (number, first keeper) of unknowns whose first keeper is not the one told last."""
        guesses = keepers_of(self._scope, self._limits)
        found = [(number, one) for number, one in enumerate(guesses) if one != self._guesses[number]]
        self._guesses = guesses
        return found

    def _check_room(self, many):
        """Raise Full if there is no room for so many more unknowns."""
        if len(self._limits) + many > MOST_UNKNOWNS:
            raise Full(MOST_UNKNOWNS)

    def _check_unknown(self, number):
        """Raise InvalidUnknown if any value is not the number of an unknown."""
        if not is_number(number, 0, len(self._limits) - 1):
            raise InvalidUnknown(number)

    def _make(self, limits):
        """Make unknowns with these bounds; returns the tuple of their numbers. Raises Barren."""
        self._guesses = self._guesses + keepers_of(self._scope, limits)
        before = len(self._limits)
        self._limits = self._limits + limits
        return tuple(range(before, len(self._limits)))
