"""Point 4: spans, against sets of moments marked one by one."""

import random
import unittest

from tests.helper import BILLION, Refusals, spans_by
from wirelooker.spans import (both_of, between, either_of, end_by, first_of, grouped, grown, how_many, is_in, last_by,
                              later, others, spans_of, worn)

FAR = 40


def marked(pairs):
    """The moments of pairs, each by itself."""
    return {moment for begin, end in pairs for moment in range(begin, end)}


def some_pairs(chance, most=6):
    pairs = []
    for _ in range(chance.randint(0, most)):
        begin = chance.randint(0, FAR)
        pairs.append((begin, min(FAR, begin + chance.choice((0, 1, 1, 2, 3, 8)))))
    return pairs


class TestSpans(Refusals, unittest.TestCase):
    def setUp(self):
        self.chance = random.Random(4)

    def each(self, many=300):
        for _ in range(many):
            yield spans_by(marked(some_pairs(self.chance)))

    def test_told_ones(self):
        self.assertEqual(spans_of([(5, 7), (0, 2)]), ((0, 2), (5, 7)))
        self.assertEqual(spans_of([(0, 2), (2, 4)]), ((0, 4),))
        self.assertEqual(spans_of([(0, 2), (3, 4)]), ((0, 2), (3, 4)))
        self.assertEqual(spans_of([(0, 9), (3, 4)]), ((0, 9),))
        self.assertEqual(spans_of([(3, 4), (0, 9), (3, 4)]), ((0, 9),))
        self.assertEqual(spans_of(((4, 4), (0, 0))), ())
        self.assertEqual(spans_of([(0, 2), (2, 2), (4, 4)]), ((0, 2),))
        self.assertEqual(spans_of([]), ())
        self.assertEqual(spans_of(()), ())

    def test_spans_of_any_pairs(self):
        for _ in range(500):
            pairs = some_pairs(self.chance, 12)
            kept = list(pairs)
            told = spans_of(pairs)
            self.assertEqual(told, spans_by(marked(pairs)))
            self.assertEqual(told, spans_of(tuple(pairs)))
            self.assertEqual(pairs, kept)
            self.assertIs(type(told), tuple)
            self.assertTrue(all(type(pair) is tuple for pair in told))

    def test_both_and_either(self):
        for one in self.each():
            other = spans_by(marked(some_pairs(self.chance)))
            self.assertEqual(both_of(one, other), spans_by(marked(one) & marked(other)))
            self.assertEqual(either_of(one, other), spans_by(marked(one) | marked(other)))
            self.assertEqual(both_of(one, ()), ())
            self.assertEqual(either_of((), one), one)
            self.assertEqual(either_of(one, one), one)

    def test_others(self):
        for some in self.each():
            for below in (0, 1, 7, 20, FAR, FAR + 3):
                self.assertEqual(others(some, below), spans_by(set(range(below)) - marked(some)))
        self.assertEqual(others((), 0), ())
        self.assertEqual(others((), 3), ((0, 3),))
        self.assertEqual(others(((0, 3),), 3), ())
        self.assertEqual(others(((0, 3),), 2), ())
        self.assertEqual(others(((2, 3),), 2), ((0, 2),))

    def test_later(self):
        for some in self.each(100):
            for n in (0, 1, 13):
                self.assertEqual(later(some, n), spans_by({moment + n for moment in marked(some)}))

    def test_grown(self):
        for some in self.each():
            moments = marked(some)
            for n in (0, 1, 2, 5, FAR + 1):
                want = {t for t in range(3 * FAR) if any(s in moments for s in range(t - n, t + 1))}
                self.assertEqual(grown(some, n), spans_by(want))

    def test_worn(self):
        for some in self.each():
            moments = marked(some)
            for n in (0, 1, 2, 5, FAR + 1):
                want = {t for t in range(FAR + 1) if all(s in moments for s in range(t - n, t + 1))}
                self.assertEqual(worn(some, n), spans_by(want))
        self.assertEqual(worn(((0, 3),), 3), ())
        self.assertEqual(worn(((0, 3),), 2), ((2, 3),))

    def test_between(self):
        for some in self.each(100):
            for begin in (0, 3, 17, FAR):
                for end in (begin, begin + 1, begin + 9, FAR + 9):
                    self.assertEqual(between(some, begin, end), spans_by(marked(some) & set(range(begin, end))))
        self.assertEqual(between(((0, 9),), 4, 4), ())

    def test_is_in_how_many_first_of(self):
        for some in self.each(100):
            moments = marked(some)
            for moment in range(FAR + 2):
                self.assertIs(is_in(some, moment), moment in moments)
            self.assertEqual(how_many(some), len(moments))
            self.assertEqual(first_of(some), min(moments) if moments else None)
        self.assertIsNone(first_of(()))
        self.assertEqual(how_many(()), 0)
        self.assertIs(is_in((), 0), False)
        self.assertEqual(first_of(((0, 1),)), 0)

    def test_grouped(self):
        for some in self.each(100):
            moments = sorted(self.chance.sample(range(FAR), 12))
            want = [[moment for moment in moments if begin <= moment < end] for begin, end in some]
            self.assertEqual(grouped(moments, some), want)

    def test_end_by_and_last_by(self):
        for some in self.each(100):
            for moment in range(FAR + 2):
                ends = [end for begin, end in some if begin <= moment < end]
                self.assertEqual(end_by(some, moment), ends[0] if ends else moment)
                ahead = [at for begin, end in some for at in range(begin, end) if at <= moment]
                self.assertEqual(last_by(some, moment), max(ahead) if ahead else None)

    def test_by_name(self):
        some = ((1, 3),)
        self.assertEqual(spans_of(pairs=[(1, 3)]), some)
        self.assertEqual(both_of(one=some, other=some), some)
        self.assertEqual(either_of(one=some, other=some), some)
        self.assertEqual(others(some=some, below=1), ((0, 1),))
        self.assertEqual(later(some=some, n=1), ((2, 4),))
        self.assertEqual(grown(some=some, n=1), ((1, 4),))
        self.assertEqual(worn(some=some, n=1), ((2, 3),))
        self.assertEqual(between(some=some, begin=2, end=3), ((2, 3),))
        self.assertIs(is_in(some=some, moment=1), True)
        self.assertEqual(how_many(some=some), 2)
        self.assertEqual(first_of(some=some), 1)

    def test_far_ones_quickly(self):
        step = BILLION // 200
        pairs = [(at * step, at * step + step // 2) for at in range(200)]
        shifted = [(begin + step // 4, end + step // 4) for begin, end in pairs]
        one = self.quickly(spans_of, pairs[::-1])
        other = self.quickly(spans_of, shifted)
        self.assertEqual(one, tuple(pairs))
        self.assertEqual(how_many(self.quickly(both_of, one, other)), 200 * (step // 4))
        self.assertEqual(how_many(self.quickly(either_of, one, other)), 200 * (step // 2 + step // 4))
        self.assertEqual(how_many(self.quickly(others, one, BILLION)), BILLION - how_many(one))
        self.assertEqual(self.quickly(grown, one, step // 2), ((0, BILLION),))
        self.assertEqual(self.quickly(worn, one, step // 2), ())
        self.assertEqual(how_many(self.quickly(worn, one, step // 2 - 1)), 200)
        self.assertEqual(self.quickly(later, one, BILLION)[0], (BILLION, BILLION + step // 2))
        self.assertEqual(self.quickly(between, one, BILLION - 1, BILLION), ())
        self.assertIs(self.quickly(is_in, one, BILLION - step), True)


if __name__ == "__main__":
    unittest.main()
