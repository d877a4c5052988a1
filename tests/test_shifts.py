"""Point 37: two catches held against one another, one of them shifted."""

import math
import random
import unittest

from tests.helper import BILLION, Refusals, levels_of, some_catch
from tests.wishing import some_long_line
from wirelooker.errors import NoCatch, Nothing
from wirelooker.shifts import FAR, best_shift, share, unlike_at

NOTHING = (("a", ()), ("b", ()))


def slow_unlike(one, other, shift):
    """How often both are unlike, moment by moment."""
    many = 0
    for (_, line), (_, more) in zip(one, other):
        first = dict(enumerate(levels_of(line)))
        second = {moment + shift: level for moment, level in enumerate(levels_of(more))}
        many += sum(first.get(moment) != second.get(moment) for moment in {*first, *second})
    return many


def slow_best(one, other, most):
    """The best shift, each one tried, the nearest to 0 first, of two the one below 0."""
    shifts = sorted(range(-most, most + 1), key=lambda shift: (abs(shift), shift))
    best = min(shifts, key=lambda shift: slow_unlike(one, other, shift))
    return (best, slow_unlike(one, other, best))


class TestUnlikeAt(Refusals, unittest.TestCase):
    def test_told_ones(self):
        one, other = (("a", ((0, 2), (1, 3))),), (("a", ((0, 1), (1, 3))),)
        self.assertEqual(unlike_at(one, other), 2)
        self.assertEqual(unlike_at(one, other, shift=0), 2)
        self.assertEqual(unlike_at(one, other, shift=1), 1)
        self.assertEqual(unlike_at(one=one, other=other, shift=-1), 5)
        self.assertEqual(unlike_at(one, other, shift=5), 9)
        self.assertEqual(unlike_at(one, other, shift=-4), 9)
        self.assertEqual(unlike_at(one, other, shift=4), 8)
        self.assertEqual(unlike_at(one, other, shift=BILLION), 9)
        self.assertEqual(unlike_at(one, other, shift=-BILLION), 9)
        self.assertEqual(unlike_at(one, one), 0)

    def test_without_moments(self):
        some = (("a", ((1, 4),)), ("b", ((0, 1), (1, 3))))
        for shift in (0, 3, -3, -BILLION):
            self.assertEqual(unlike_at(NOTHING, NOTHING, shift=shift), 0)
            self.assertEqual(unlike_at(NOTHING, some, shift=shift), 8)
            self.assertEqual(unlike_at(some, NOTHING, shift=shift), 8)

    def test_every_shift(self):
        chance = random.Random(37)
        for _ in range(60):
            names = "abcde"[:chance.choice((1, 2, 5))]
            one, other = (some_catch(chance, names, chance.randrange(14), chance.choice((1, 3, 6))) for _ in range(2))
            for shift in range(-18, 19):
                self.assertEqual(unlike_at(one, other, shift=shift), slow_unlike(one, other, shift), (one, other, shift))

    def test_a_thousand_million_moments(self):
        one = (("a", ((0, BILLION - 5), (1, 5))),)
        other = (("a", ((1, 3), (0, BILLION - 3))),)
        self.assertEqual(unlike_at(one, other), 8)
        self.assertEqual(unlike_at(one, other, shift=BILLION - 5), 2 + 2 * (BILLION - 5))
        self.assertEqual(unlike_at(one, other, shift=BILLION), 2 * BILLION)


class TestBestShift(Refusals, unittest.TestCase):
    def best(self, one, other, most):
        told = best_shift(one, other, most=most)
        self.assertEqual(told, slow_best(one, other, most), (one, other, most))
        return told

    def test_told_ones(self):
        one, other = (("a", ((0, 2), (1, 3))),), (("a", ((0, 1), (1, 3))),)
        self.assertEqual(best_shift(one, other), (1, 1))
        self.assertEqual(best_shift(one=one, other=other, most=0), (0, 2))
        self.assertEqual(best_shift(other, one), (-1, 1))
        self.assertEqual(best_shift(one, one), (0, 0))
        self.assertEqual(FAR, 1000)

    def test_of_two_the_one_below_0(self):
        # Each moment of the other is as good under the one's first high as under its second.
        one = (("a", ((1, 1), (0, 1), (1, 1))),)
        other = (("a", ((0, 1), (1, 1), (0, 1))),)
        self.assertEqual(self.best(one, other, 5), (-1, 2))
        self.assertEqual(self.best(other, one, 5), (-1, 2))
        self.assertEqual(self.best(one, other, 0), (0, 3))

    def test_where_it_is_even(self):
        # A short one within a long one of the same level is as little unlike at each shift within.
        one, other = (("a", ((1, 30),)),), (("a", ((1, 4),)),)
        self.assertEqual(self.best(one, other, 40), (0, 26))
        self.assertEqual(self.best(other, one, 40), (0, 26))
        self.assertEqual(self.best((("a", ((0, 9), (1, 20))),), other, 40), (9, 25))
        self.assertEqual(self.best((("a", ((0, 9), (1, 20))),), other, 6), (6, 28))
        self.assertEqual(self.best(other, (("a", ((0, 9), (1, 20))),), 6), (-6, 28))
        # Of unlike levels, each shift within counts alike, and the first one at which they part is the best.
        self.assertEqual(self.best((("a", ((1, 5),)),), (("a", ((0, 5),)),), 9), (0, 5))
        self.assertEqual(self.best((("a", ((1, 5),)),), (("a", ((0, 5),)),), 2), (0, 5))

    def test_without_moments(self):
        some = (("a", ((1, 4),)), ("b", ((0, 1), (1, 3))))
        for most in (0, 7, FAR, BILLION):
            self.assertEqual(best_shift(NOTHING, NOTHING, most=most), (0, 0))
            self.assertEqual(best_shift(NOTHING, some, most=most), (0, 8))
            self.assertEqual(best_shift(some, NOTHING, most=most), (0, 8))

    def test_each_shift_tried(self):
        chance = random.Random(370)
        for _ in range(250):
            names = "abcde"[:chance.choice((1, 1, 2, 5))]
            one, other = (some_catch(chance, names, chance.randrange(14), chance.choice((1, 3, 6))) for _ in range(2))
            self.best(one, other, chance.choice((0, 1, 3, 8, 20)))

    def test_left_out_is_a_thousand(self):
        self.assertEqual(best_shift((("a", ((1, 5),)),), (("a", ((0, 1000), (1, 5))),)), (-1000, 1000))
        self.assertEqual(best_shift((("a", ((1, 5),)),), (("a", ((0, 1001), (1, 5))),)), (-1000, 1002))
        self.assertEqual(best_shift((("a", ((0, 1001), (1, 5))),), (("a", ((1, 5),)),)), (1000, 1002))

    def test_seventy_runs_quickly(self):
        chance = random.Random(371)
        for _ in range(10):
            one, other = ((("a", some_long_line(chance, 70)),) for _ in range(2))
            for most in (BILLION, FAR, 0):
                shift, many = self.quickly(lambda: best_shift(one, other, most=most), seconds=2)
                self.assertEqual(many, unlike_at(one, other, shift=shift))
                self.assertLessEqual(many, unlike_at(one, other))
                for _ in range(30):
                    tried = chance.randint(-most, most)
                    self.assertLessEqual((many, abs(shift), shift),
                                         (unlike_at(one, other, shift=tried), abs(tried), tried))

    def test_a_long_line_found_again(self):
        chance = random.Random(372)
        for far in (-BILLION // 4, -1234567, -1, 0, 1, 999, BILLION // 4):
            one = tuple((name, some_long_line(chance, 14, BILLION // 2)) for name in "abcde")
            moved = tuple((name, ((1 - line[0][0], abs(far)), *line) if far else line) for name, line in one)
            pair = (moved, one) if far > 0 else (one, moved)
            self.assertEqual(best_shift(*pair, most=BILLION), (far, 5 * abs(far)))


class TestShare(Refusals, unittest.TestCase):
    def test_told_ones(self):
        one = (("a", ((0, 2), (1, 3))), ("b", ((0, 5),)))
        self.assertEqual(share(one, one), (0, 1))
        self.assertEqual(share(one, (("a", ((0, 4),)), ("b", ((0, 4),)))), (2, 5))
        self.assertEqual(share(one=one, other=(("a", ((1, 2), (0, 3))), ("b", ((1, 5),)))), (1, 1))
        self.assertEqual(share(one, (("a", ()), ("b", ()))), (1, 1))
        self.assertEqual(share((("a", ()), ("b", ())), (("a", ((1, 1),)), ("b", ((0, 1),)))), (1, 1))

    def test_by_chance(self):
        chance = random.Random(373)
        for _ in range(300):
            names = "abcde"[:chance.choice((1, 2, 5))]
            one, other = (some_catch(chance, names, chance.randint(0, 12)) for _ in range(2))
            there = max(len(levels_of(one[0][1])), len(levels_of(other[0][1]))) * len(names)
            if there:
                upper, lower = share(one, other)
                self.assertEqual(upper * there, slow_unlike(one, other, 0) * lower)
                self.assertEqual(math.gcd(upper, lower), 1)
                self.assertGreater(lower, 0)

    def test_nothing(self):
        self.refused(Nothing, {}, share, NOTHING, NOTHING)
        with self.assertRaises(ZeroDivisionError):
            share((("a", ()),), (("a", ()),))


class TestNames(Refusals, unittest.TestCase):
    def test_other_names(self):
        for line in ((), ((1, 3),)):
            def catch(names, line=line):
                return tuple((name, line) for name in names)
            for names, told, at in (("ab", "ba", 0), ("ab", "ac", 1), ("ab", "a", 1), ("a", "ab", 1), ("abc", "abd", 2),
                                    ("abcde", "abcd", 4), ("a", "b", 0), ("abc", "acb", 1)):
                for function in (unlike_at, best_shift, share):
                    self.refused(NoCatch, {"word": "name", "at": at}, function, catch(names), catch(told))
                self.refused(NoCatch, {"word": "name", "at": at}, unlike_at, catch(names), catch(told), shift=-4)
                self.refused(NoCatch, {"word": "name", "at": at}, best_shift, catch(names), catch(told), most=0)


if __name__ == "__main__":
    unittest.main()
