"""Keepers by their places in ascending order."""

from kindsunder.basics import is_number
from kindsunder.bounds import check_closed
from kindsunder.counts import MOST_COUNTED, check_number, combined, tallies_of
from kindsunder.errors import InvalidPlace
from kindsunder.keepers import web_of


class Ranks:
    """A web, with the counts of its bounds for each number as far as one."""

    def __init__(self, web, number):
        self.web = web
        self.tallies = tallies_of(web, number)

    def keeper(self, at, number, place):
        """The keeper with this place, which there is, of bounds of the web, of those with at most this depth."""
        below = self.tallies[number - 1]
        for class_number, children in enumerate(self.web.branches[at]):
            many = 0 if children is None else combined(below, children)
            if place < many:
                return (class_number,) + self.keepers(children, number - 1, place)
            place -= many

    def keepers(self, children, number, place):
        """The keepers of some bounds that stand at this place of all such tuples."""
        found = ()
        for child in reversed(children):
            many = self.tallies[number][child]
            found = (self.keeper(child, number, place % many),) + found
            place = place // many
        return found

    def place(self, at, number, closed):
        """A tuple of the place of a closed type, and 1 if it is one of the keepers, otherwise 0."""
        if number == 0:
            return 0, 0
        below = self.tallies[number - 1]
        branches = self.web.branches[at]
        less = sum([combined(below, children) for children in branches[:closed[0]] if children is not None])
        if branches[closed[0]] is None:
            return less, 0
        inside, found = 0, 1
        for child, argument in zip(branches[closed[0]], closed[1:]):
            inner, is_there = self.place(child, number - 1, argument)
            # What is less in an earlier argument is less whatever this one is.
            inside = inside * below[child] + found * inner
            found = found * is_there
        return less + inside, found


def keeper_at(table, bounds, number, place):
    """The keeper with this place among those with a depth of at most number."""
    web = web_of(table, bounds)
    check_number(number, MOST_COUNTED)
    ranks = Ranks(web, number)
    if not is_number(place, 0, ranks.tallies[number][0] - 1):
        raise InvalidPlace("this is not a place among these keepers")
    return ranks.keeper(0, number, place)


def place_of(table, bounds, number, closed):
    """The place of the closed type among the keepers with a depth of at most number."""
    web = web_of(table, bounds)
    check_number(number, MOST_COUNTED)
    check_closed(web.scope, closed)
    return Ranks(web, number).place(0, number, closed)[0]
