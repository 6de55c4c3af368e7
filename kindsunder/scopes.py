"""Sound tables, with what is asked of them over and over."""

from kindsunder.basics import put
from kindsunder.errors import Unsound
from kindsunder.growth import check_tame
from kindsunder.sound import judged
from kindsunder.tables import check_table


class Scope:
    """A sound table, its heads, and the one instance of each class above each class.

    The classes of the table are its rows; the instances are kept by the lower class, then by the upper one. Known
    are pairs of types of which one has found out whether the first one is under the second one, pieces are splits
    of single types, and branches those of bounds by all classes.
    """

    def __init__(self, rows, heads, instances):
        self.rows = rows
        self.heads = heads
        self.instances = {low: {high: some[0] for high, some in found.items()} for low, found in instances.items()}
        self.known = {}
        self.pieces = {}
        self.branches = {}

    def raised(self, shape, class_number):
        """The instance of the class above a class type, or None."""
        instance = self.instances[shape[0]].get(class_number)
        if instance is None:
            return None
        return put(instance, shape[1:])


def sound_scope(table):
    """The scope of a table. Raises InvalidTable or Unsound."""
    heads = check_table(table)
    found, instances = judged(table)
    if found is not None:
        raise Unsound(found)
    return Scope(table, heads, instances)


def tame_scope(table):
    """The scope of a table that is tame, too. Raises InvalidTable, Unsound or NotTame."""
    scope = sound_scope(table)
    check_tame(table)
    return scope
