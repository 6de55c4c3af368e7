"""Which crossings are met, out of all that one crossing leads to, and by which fillings."""

from kindsunder.crossings import is_choice, key_of_crossing, letters_in, matched, needed_of
from kindsunder.webs import Web


class Passage:
    """The crossings that one from a first half to a second one leads to, numbered as they come up.

    Needed has for each crossing the numbers of those that it needs, if fillings may meet it, and users the numbers of
    those that need it. Fillings have a tuple (filling, filling) that meets the crossing, or None. No more crossings
    than it takes are looked at.
    """

    def __init__(self, scope, first, second):
        self.scope = scope
        self.web = Web(scope, first[1] + second[1])
        self.crossings = []
        self.needed = []
        self.users = []
        self.fillings = []
        self._numbers = {}
        self._numbered((first, second, "under"))
        while len(self.needed) < len(self.crossings) and self.fillings[0] is None:
            self._explore(len(self.needed))

    def _numbered(self, crossing):
        """The number of a crossing, a new one if it is new."""
        key = key_of_crossing(crossing)
        if key not in self._numbers:
            self._numbers[key] = len(self.crossings)
            self.crossings.append(crossing)
            self.users.append([])
            self.fillings.append(None)
        return self._numbers[key]

    def _first(self, bounds):
        """The first keeper of limits of a half, or None."""
        return self.web.firsts[self.web.number_of(bounds)]

    def _explore(self, number):
        """Find out what a crossing needs, and whether it is met by what is met already."""
        crossing = self.crossings[number]
        poor = any(self._first(bounds) is None for half in crossing[:2] for bounds in half[1])
        found = None if poor else needed_of(self.scope, crossing)
        self.needed.append(None if found is None else [self._numbered(one) for one in found])
        for inner in self.needed[number] or []:
            self.users[inner].append(number)
        waiting = [number]
        while waiting:
            here = waiting.pop()
            if self.fillings[here] is None and self._is_met(here):
                self.fillings[here] = self._filled(here)
                waiting.extend(self.users[here])

    def _is_met(self, number):
        """True if enough of what a crossing needs is met."""
        if self.needed[number] is None:
            return False
        met = [self.fillings[inner] is not None for inner in self.needed[number]]
        return any(met) if is_choice(self.crossings[number]) else all(met)

    def _filled(self, number):
        """Fillings that meet a crossing, by those of the crossings that it needs."""
        crossing = self.crossings[number]
        if not is_choice(crossing):
            return self._put_together(number)
        inner = [one for one in self.needed[number] if self.fillings[one] is not None][0]
        low, high = self.fillings[inner]
        if isinstance(crossing[0][0], str):
            return ((self.crossings[inner][0][0][:1] + low,), high)
        return (low, (self.crossings[inner][1][0][:1] + high,))

    def _put_together(self, number):
        """Fillings for halves with class types as shapes. Where a variable is not compared, any keeper serves."""
        crossing = self.crossings[number]
        values = ({}, {})
        for (inner, flipped), at in zip(matched(self.scope, crossing), self.needed[number]):
            for side in (0, 1):
                one = values[1 - side] if flipped else values[side]
                for letter, closed in zip(letters_in(inner[side][0]), self.fillings[at][side]):
                    one[letter] = closed
        found = []
        for (shape, limits), one in zip(crossing[:2], values):
            named = list(zip(letters_in(shape), limits))
            found.append(tuple([one.get(letter, self._first(bounds)) for letter, bounds in named]))
        return tuple(found)
