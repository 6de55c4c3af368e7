"""Bounds with all that come from them by splits, and the first keepers of them all."""

from kindsunder.wants import branches_of, key_of_bounds


class Web:
    """Bounds and their families, numbered in the order in which they come up.

    The rows are the bounds. Branches have, for each of them and each class, the numbers of the bounds of the split, or
    None if the class is barred. Depths have the least depth of a keeper, firsts the first keeper, or None for barren
    bounds.
    """

    def __init__(self, scope, starts):
        self.scope = scope
        self.rows = []
        self.branches = []
        self._numbers = {}
        for bounds in starts:
            self._numbered(bounds)
        while len(self.branches) < len(self.rows):
            self.branches.append(self._branches_at(self.rows[len(self.branches)]))
        self.depths = [None for _ in self.rows]
        self.firsts = [None for _ in self.rows]
        self._find_firsts()

    def _numbered(self, bounds):
        """The number of these bounds, a new one if they are new."""
        key = key_of_bounds(bounds)
        if key not in self._numbers:
            self._numbers[key] = len(self.rows)
            self.rows.append(bounds)
        return self._numbers[key]

    def _branches_at(self, bounds):
        """The branches of bounds, with numbers for the bounds of the splits."""
        found = []
        for split in branches_of(self.scope, bounds):
            found.append(None if split is None else tuple([self._numbered(one) for one in split]))
        return found

    def _next_firsts(self):
        """Tuples (number, class) for the first keepers that are not found yet, but their arguments are."""
        found = []
        for number in range(len(self.rows)):
            heads = self.heads_at(number) if self.firsts[number] is None else []
            if heads:
                found.append((number, heads[0]))
        return found

    def _find_firsts(self):
        """Find the first keepers, those of depth 1, then those of depth 2, and so on, as long as there are any."""
        deepest = 1
        while found := self._next_firsts():
            for number, class_number in found:
                self.depths[number] = deepest
                self.firsts[number] = self.keeper_of(number, class_number)
            deepest += 1

    def number_of(self, bounds):
        """The number of these bounds, which are in the web."""
        return self._numbers[key_of_bounds(bounds)]

    def heads_at(self, number):
        """The ascending list of the classes of keepers, as far as the first keepers are found."""
        return [class_number for class_number, children in enumerate(self.branches[number])
                if children is not None and all(self.firsts[child] is not None for child in children)]

    def keeper_of(self, number, class_number):
        """The keeper of this class with the first keepers as arguments."""
        return (class_number,) + tuple([self.firsts[child] for child in self.branches[number][class_number]])

    def keeper_with(self, number, class_number, parameter, closed):
        """The keeper of this class with a keeper as one argument and the first keepers as others."""
        arguments = list(self.keeper_of(number, class_number))
        arguments[1 + parameter] = closed
        return tuple(arguments)

    def barren(self):
        """The list of the barren bounds."""
        return [bounds for bounds, first in zip(self.rows, self.firsts) if first is None]
