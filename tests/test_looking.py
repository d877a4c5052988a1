"""Point 35: patterns looked for in rows of numbers."""

import itertools
import random
import unittest

from tests.helper import BILLION, Refusals
from wirelooker.looking import fits_in

ANY = ("any",)
ANYTHING = ("gap", 0, BILLION)


def ends_from(row, pattern, begin):
    """All ends to which a pattern fits from a begin, a set."""
    if not pattern:
        return {begin}
    thing, *behind = pattern
    if thing[0] == "gap":
        many = [count for count in range(len(row) - begin + 1) if thing[1] <= count <= thing[2]]
        return {end for count in many for end in ends_from(row, behind, begin + count)}
    if begin == len(row):
        return set()
    fits = {"is": lambda n: row[begin] == n, "from": lambda low, high: low <= row[begin] <= high, "any": lambda: True}
    return ends_from(row, behind, begin + 1) if fits[thing[0]](*thing[1:]) else set()


def slow_fits(row, pattern):
    told = []
    for begin in range(len(row) + 1):
        ends = ends_from(row, pattern, begin)
        if ends:
            told.append((begin, min(ends)))
    return told


def some_thing(chance, far):
    low = chance.choice((0, 0, 1, 2))
    return chance.choice((("is", chance.randrange(3)), ANY, ("from", low, low + chance.randrange(2)),
                          ("gap", low, low + chance.choice((0, 1, far)))))


class TestLooking(Refusals, unittest.TestCase):
    def fits(self, row, pattern):
        told = fits_in(row, pattern)
        self.assertEqual(told, slow_fits(row, pattern), (row, pattern))
        self.assertIs(type(told), list)
        self.assertEqual(fits_in(tuple(row), pattern), fits_in(list(row), pattern))
        return told

    def test_each_thing_alone(self):
        row = (5, 0, 5, BILLION)
        self.assertEqual(self.fits(row, (("is", 5),)), [(0, 1), (2, 3)])
        self.assertEqual(self.fits(row, (("is", 7),)), [])
        self.assertEqual(self.fits(row, (("is", BILLION),)), [(3, 4)])
        self.assertEqual(self.fits(row, (("from", 0, 4),)), [(1, 2)])
        self.assertEqual(self.fits(row, (("from", 5, 5),)), [(0, 1), (2, 3)])
        self.assertEqual(self.fits(row, (("from", 1, BILLION),)), [(0, 1), (2, 3), (3, 4)])
        self.assertEqual(self.fits(row, (ANY,)), [(0, 1), (1, 2), (2, 3), (3, 4)])
        self.assertEqual(self.fits(row, (("gap", 0, 0),)), [(at, at) for at in range(5)])
        self.assertEqual(self.fits(row, (ANYTHING,)), [(at, at) for at in range(5)])
        self.assertEqual(self.fits(row, (("gap", 2, 3),)), [(0, 2), (1, 3), (2, 4)])
        self.assertEqual(self.fits(row, (("gap", 4, 4),)), [(0, 4)])
        self.assertEqual(self.fits(row, (("gap", 5, BILLION),)), [])

    def test_without_things_or_numbers(self):
        self.assertEqual(self.fits((), ()), [(0, 0)])
        self.assertEqual(self.fits((3, 4), ()), [(0, 0), (1, 1), (2, 2)])
        self.assertEqual(self.fits((), (ANY,)), [])
        self.assertEqual(self.fits((), (("is", 0),)), [])
        self.assertEqual(self.fits((), (ANYTHING, ("gap", 0, 0))), [(0, 0)])
        self.assertEqual(self.fits((), (("gap", 1, 1),)), [])

    def test_gaps(self):
        row = [1, 2, 1, 3, 2, 2]
        self.assertEqual(self.fits(row, (("is", 1), ANYTHING, ("is", 2))), [(0, 2), (2, 5)])
        self.assertEqual(self.fits(row, (("is", 1), ("gap", 1, BILLION), ("is", 2))), [(0, 5), (2, 5)])
        self.assertEqual(self.fits(row, (("is", 1), ("gap", 0, 0), ("is", 2))), [(0, 2)])
        self.assertEqual(self.fits(row, (("is", 1), ("gap", 2, 3), ("is", 2))), [(0, 5), (2, 6)])
        self.assertEqual(self.fits(row, (("is", 1), ANYTHING)), [(0, 1), (2, 3)])
        self.assertEqual(self.fits(row, (("is", 1), ("gap", 2, 9))), [(0, 3), (2, 5)])
        self.assertEqual(self.fits(row, (ANYTHING, ("is", 3))), [(0, 4), (1, 4), (2, 4), (3, 4)])
        self.assertEqual(self.fits(row, (("gap", 1, 2), ("is", 3))), [(1, 4), (2, 4)])
        self.assertEqual(self.fits(row, (("gap", 0, 1), ("gap", 2, 2), ("from", 2, 3))), [(0, 4), (1, 4), (2, 5), (3, 6)])

    def test_every_short_row_and_pattern(self):
        things = (("is", 1), ("from", 0, 0), ANY, ("gap", 0, 1), ("gap", 1, 2), ANYTHING)
        for many in range(4):
            for pattern in itertools.product(things, repeat=many):
                for length in range(5):
                    for row in itertools.product((0, 1), repeat=length):
                        self.assertEqual(fits_in(row, pattern), slow_fits(row, pattern), (row, pattern))

    def test_by_chance(self):
        chance = random.Random(35)
        for _ in range(1500):
            row = [chance.randrange(3) for _ in range(chance.randrange(12))]
            self.fits(row, tuple(some_thing(chance, chance.choice((2, BILLION))) for _ in range(chance.randrange(6))))

    def test_rows_of_sixty_with_wide_gaps(self):
        row = [at * at % 7 for at in range(60)]
        gaps = (("gap", 0, BILLION), ("is", 1), ("gap", 3, 50), ("any",), ("gap", 0, 59), ("from", 2, 4), ("gap", 1, 60), ("is", 2),
                ("gap", 0, BILLION), ("is", 0))
        told = self.quickly(fits_in, row, gaps)
        self.assertEqual(told[0][0], 0)
        self.assertEqual({end for _, end in told}, {15, 22, 29, 36, 43, 50, 57})
        self.assertEqual(self.quickly(fits_in, (5,) * 60, (ANYTHING,) * 9 + (("is", 6),)), [])
        self.assertEqual(self.quickly(fits_in, (5,) * 60, (("gap", 1, BILLION),) * 10), [(at, at + 10) for at in range(51)])

    def test_long_rows(self):
        row = [at % 1000 for at in range(20000)]
        told = self.quickly(fits_in, row, (("is", 3), ANYTHING, ("is", 2), ("gap", 5, BILLION), ("from", 7, 8)))
        self.assertEqual(told, [(1000 * at + 3, 1000 * at + 1009) for at in range(19)])

    def test_a_list_of_its_own(self):
        row, pattern = [1, 2, 1], (("is", 1), ANYTHING)
        first = fits_in(row, pattern)
        first.append("mine")
        self.assertEqual(row, [1, 2, 1])
        self.assertEqual(fits_in(row=row, pattern=pattern), [(0, 1), (2, 3)])
        second = fits_in(row, pattern)
        row.clear()
        self.assertEqual(second, [(0, 1), (2, 3)])


if __name__ == "__main__":
    unittest.main()
