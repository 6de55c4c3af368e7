"""kindsunder.ranks: keeper_at, place_of (points 3, 27 and 31)."""

import random
import unittest

from kindsunder.counts import count
from kindsunder.errors import InvalidNumber, InvalidPlace, InvalidTable, InvalidType, NotTame, Unsound
from kindsunder.ranks import keeper_at, place_of
from kindsunder.wrongs import InvalidBounds
from tests import bounded, oracle, oracle_bounds, samples
from tests.base import Case

EXAMPLE = samples.EXAMPLE
NONE = ((), ())
BOUNDS = ((), ((0, (2,)),))


class Places(Case):
    def test_example(self):
        self.same([keeper_at(EXAMPLE, BOUNDS, 2, 3), place_of(EXAMPLE, BOUNDS, 2, (1, (2,)))], [(1, (3,)), 2])

    def test_all_places_against_all_types(self):
        """All places, without gaps, the types ascending; each one back to its place."""
        seen = 0
        for table, bounds in bounded.cases(8, 341):
            for number in range(1, 4):
                some = oracle_bounds.all_types(table, number, 500)
                if some is None:
                    continue
                wanted = [one for one in some if oracle_bounds.keeps(table, bounds, one)]
                for place in sorted(set(list(range(25)) + list(range(len(wanted) - 5, len(wanted)))) & set(range(len(wanted)))):
                    closed = wanted[place]
                    self.same(keeper_at(table, bounds, number, place), closed, (table, bounds, number, place))
                    self.same(place_of(table, bounds, number, closed), place, (table, bounds, number, closed))
                    seen += 1
                for place in (-1, len(wanted), len(wanted) + 1):
                    self.fails(InvalidPlace, keeper_at, table, bounds, number, place)
        self.assertGreater(seen, 1000)

    def test_any_closed_type(self):
        """The place is the number of those that are less, for types that do not keep the bounds, and too deep ones, too."""
        seen = 0
        for table, bounds in bounded.cases(6, 342):
            for number in range(4):
                some = oracle_bounds.all_types(table, number, 500)
                if some is None:
                    continue
                wanted = [one for one in some if oracle_bounds.keeps(table, bounds, one)]
                for closed in bounded.pool_of(table, 8) + oracle_bounds.closed_types(table, 3, 60)[::7]:
                    found = self.steady(place_of, table, bounds, number, closed)
                    self.same(found, len([one for one in wanted if one < closed]), (table, bounds, number, closed))
                    seen += closed not in wanted
        self.assertGreater(seen, 1000)

    def test_great_numbers(self):
        """One is the other way round of the other, at any depth; the order is that of the types."""
        rng = random.Random(343)
        for table, bounds in bounded.cases(5, 344):
            many = count(table, bounds, 8)
            if many == 0:
                continue
            places = sorted({0, many - 1, many // 2} | {rng.randrange(many) for _ in range(4)})
            types = [self.steady(keeper_at, table, bounds, 8, place) for place in places]
            self.assertEqual(types, sorted(types))
            for place, closed in zip(places, types):
                self.assertTrue(oracle_bounds.keeps(table, bounds, closed))
                self.assertLessEqual(oracle.depth(closed), 8)
                self.same(place_of(table, bounds, 8, closed), place, (table, bounds, place))
            for place in (many, many + 1, -1):
                self.fails(InvalidPlace, keeper_at, table, bounds, 8, place)

    def test_types_of_any_size(self):
        deep = (2,)
        for levels in range(100):
            deep = (1, deep)
        for number in range(9):
            self.same(place_of(EXAMPLE, NONE, number, deep), len([one for one in oracle_bounds.all_types(EXAMPLE, number, 1000) if one < deep]))

    def test_places_without_keepers(self):
        for table, bounds, number in (((), NONE, 4), (EXAMPLE, NONE, 0), (EXAMPLE, BOUNDS, 1), (EXAMPLE, (((2,), (0, (2,)))[::-1], ()), 8)):
            for place in (0, 1, -1):
                self.fails(InvalidPlace, keeper_at, table, bounds, number, place)
        self.same([place_of(EXAMPLE, NONE, 0, (3,)), place_of(EXAMPLE, BOUNDS, 1, (3,))], [0, 0])

    def test_errors(self):
        for function, good in ((keeper_at, [EXAMPLE, NONE, 1, 0]), (place_of, [EXAMPLE, NONE, 1, (2,)])):
            self.refuses_tables(function, *good[1:])
            self.needs_sound(function, *good[1:])
            self.needs_tame(function, *good[1:])
        self.refuses_bounds(place_of, [EXAMPLE, NONE, 1, (2,)], 1)
        self.refuses_numbers(place_of, [EXAMPLE, NONE, 1, (2,)], 2, 8)
        self.refuses(InvalidBounds, keeper_at, [EXAMPLE, NONE, 8, 0], 1, lambda value: False, [None, (), ((), None), ((), ((3,), (2,)))])
        self.refuses(InvalidNumber, keeper_at, [EXAMPLE, NONE, 8, 0], 2, lambda value: value in range(1, 9) and value is not True, [
            None, True, False, 9, -1, "1", [1], (1,), 10 ** 30, 1, 8])
        self.refuses(InvalidPlace, keeper_at, [EXAMPLE, NONE, 2, 0], 3, lambda value: oracle.whole(value) and 0 <= value < 6, samples.ODD + [0, 5, 6, (), "0", True, False])
        self.refuses_closed(place_of, [EXAMPLE, NONE, 2, (2,)], 3)
        self.fails_in_order(keeper_at, [EXAMPLE, NONE, 1, 0], [
            (InvalidTable, 0, 5), (Unsound, 0, samples.FAULTY_WILD), (NotTame, 0, samples.WILD), (InvalidBounds, 1, ""), (InvalidNumber, 2, 9), (InvalidPlace, 3, 2)])
        self.fails_in_order(place_of, [EXAMPLE, NONE, 1, (2,)], [
            (InvalidTable, 0, 5), (Unsound, 0, samples.FAULTY_WILD), (NotTame, 0, samples.WILD), (InvalidBounds, 1, ""), (InvalidNumber, 2, 9), (InvalidType, 3, "a")])


if __name__ == "__main__":
    unittest.main()
