"""A bench: a sound and tame table that is kept over calls, with watched pairs and marks."""

from kindsunder.basics import is_number
from kindsunder.deciding import decide, holds
from kindsunder.errors import Full, InvalidMark, InvalidSign, InvalidWatch
from kindsunder.scopes import tame_scope
from kindsunder.signs import improved
from kindsunder.tables import MOST_CLASSES, are_signs, check_class, check_type

MOST_WATCHED = 6
MOST_MARKS = 6


def with_class(table, class_number, row):
    """The table with this row in place of a class."""
    return table[:class_number] + (row,) + table[class_number + 1:]


class Bench:
    """A table that is sound and tame, pairs of types that are watched, and marks.

    All that a mark has to keep is replaced, never changed: the scope of the table, the tuple of the watched pairs,
    and the tuple of the answers that were told last.
    """

    def __init__(self):
        self._scope = tame_scope(())
        self._watched = ()
        self._told = ()
        self._marks = []

    @property
    def table(self):
        """The table."""
        return self._scope.rows

    def add_class(self, class_value):
        """Add a class to the table; returns its number."""
        number = len(self._scope.rows)
        if number >= MOST_CLASSES:
            raise Full(MOST_CLASSES)
        self._scope = tame_scope(self._scope.rows + (class_value,))
        return number

    def add_super(self, class_number, super_value):
        """Add a super to a class."""
        table = self._scope.rows
        check_class(table, class_number)
        signs, supers, members = table[class_number]
        self._scope = tame_scope(with_class(table, class_number, (signs, supers + (super_value,), members)))

    def add_member(self, class_number, name, use, type_value):
        """Add a member to a class."""
        table = self._scope.rows
        check_class(table, class_number)
        signs, supers, members = table[class_number]
        grown = members + ((name, use, type_value),)
        self._scope = tame_scope(with_class(table, class_number, (signs, supers, grown)))

    def _with_signs(self, class_number, signs):
        """The scope of the table with other signs of a class. Raises what set_signs does."""
        table = self._scope.rows
        check_class(table, class_number)
        if not are_signs(signs) or len(signs) != len(table[class_number][0]):
            raise InvalidSign("this is not a tuple of as many signs as the class has parameters")
        return tame_scope(with_class(table, class_number, (signs,) + table[class_number][1:]))

    def set_signs(self, class_number, signs):
        """Change the signs of a class."""
        self._scope = self._with_signs(class_number, signs)

    def improve(self):
        """Change all signs to the best ones."""
        self._scope = tame_scope(improved(self._scope.rows))

    def watch(self, s, t):
        """Watch a pair of types; returns its number."""
        check_type(self._scope.heads, s)
        check_type(self._scope.heads, t)
        number = len(self._watched)
        if number >= MOST_WATCHED:
            raise Full(MOST_WATCHED)
        self._told = self._told + (holds(self._scope, s, t),)
        self._watched = self._watched + ((s, t),)
        return number

    def news(self):
        """Tell the list of tuples (number, answer) of the watched pairs whose answer is not the one told last."""
        answers = self.answers()
        found = [(number, answer) for number, answer in enumerate(answers) if answer != self._told[number]]
        self._told = tuple(answers)
        return found

    def paper(self, number):
        """A tuple ("derivation", rows) or ("refusal", road) for the watched pair with this number."""
        if not is_number(number, 0, len(self._watched) - 1):
            raise InvalidWatch(number)
        s, t = self._watched[number]
        rows, road = decide(self._scope, s, t)
        if rows is None:
            return ("refusal", road)
        return ("derivation", rows)

    def mark(self):
        """Make a mark; returns its number."""
        number = len(self._marks)
        if number >= MOST_MARKS:
            raise Full(MOST_MARKS)
        self._marks = self._marks + [(self._scope, self._watched, self._told)]
        return number

    def back(self, number):
        """Go back to what was when the mark was made, and remove the later marks."""
        if not is_number(number, 0, len(self._marks) - 1):
            raise InvalidMark(number)
        self._scope, self._watched, self._told = self._marks[number]
        self._marks = self._marks[:number + 1]

    def answers(self):
        """The list of the answers of the watched pairs."""
        return [holds(self._scope, s, t) for s, t in self._watched]
