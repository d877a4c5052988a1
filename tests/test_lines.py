"""Point 5: lines, against levels laid moment by moment."""

import random
import unittest

from tests.helper import BILLION, Refusals, levels_of, line_of, long_line, some_levels, spans_by
from wirelooker.errors import NoMoment
from wirelooker.lines import (ends_of, falls, highs, is_line, joined, level_at, level_by, line_by, long_of, rises,
                              slowed, stretch, turned)


def nested(deep, core):
    for _ in range(deep):
        core = (core,)
    return core


class TestIsLine(unittest.TestCase):
    def test_lines(self):
        for thing in ((), ((0, 1),), ((1, 1),), ((0, 1), (1, 1)), ((1, 5), (0, 2), (1, 10 ** 40)), long_line(500, 3)):
            self.assertIs(is_line(thing), True, thing)

    def test_no_lines(self):
        others = [
            None, True, False, 0, 1, -1, 10 ** 40, "", "line", ("",), ("ab",), (None,), (True,), (0, 1), (1,), ((),),
            ((0,),), ((0, 1, 1),), ((0, 1), (1, 1, 1)), ((0, 0),), ((0, -1),), ((1, -10 ** 40),), ((2, 1),), ((-1, 1),),
            ((10 ** 40, 1),), ((True, 1),), ((False, 1),), ((0, True),), ((0, False),), ((0, None),), ((None, 1),),
            ((0, "1"),), (("0", 1),), ((0, (1,)),), (((0,), 1),), ((0, 1), (0, 1)), ((1, 2), (1, 1)),
            ((0, 1), (1, 1), (1, 1)), ((0, 1), None), ((0, 1), "01"), [(0, 1)], ([0, 1],), [], {}, b"",
            nested(12, ()), nested(11, (0, 1)), nested(2, (0, 1)),
        ]
        for thing in others:
            self.assertIs(is_line(thing), False, thing)

    def test_hangs_on_no_greatest_number(self):
        self.assertIs(is_line(((0, BILLION + 1), (1, 10 ** 30))), True)
        self.assertIs(is_line(thing=((0, 1),)), True)


class TestLines(Refusals, unittest.TestCase):
    def setUp(self):
        self.chance = random.Random(5)

    def each(self, many=200):
        yield ()
        yield ((0, 1),)
        yield ((1, 1),)
        yield ((1, 7),)
        for _ in range(many):
            yield line_of(some_levels(self.chance, self.chance.randint(1, 25), self.chance.choice((1, 3, 9))))

    def test_long_and_level(self):
        for line in self.each():
            levels = levels_of(line)
            self.assertEqual(long_of(line), len(levels))
            self.assertEqual([level_at(line, moment) for moment in range(len(levels))], levels)
            ends = ends_of(line)
            self.assertEqual([level_by(line, ends, moment) for moment in range(len(levels))], levels)
            for moment in (len(levels), len(levels) + 1, BILLION, -1):
                self.refused(NoMoment, {"moment": moment}, level_at, line, moment)

    def test_highs_and_line_by(self):
        for line in self.each():
            levels = levels_of(line)
            self.assertEqual(highs(line), spans_by({at for at, level in enumerate(levels) if level}))
            self.assertEqual(line_by(highs(line), len(levels)), line)
            self.assertEqual(line_by(highs(line), len(levels) + 2), line_of(levels + [0, 0]))
        self.assertEqual(line_by((), 0), ())
        self.assertEqual(line_by((), 4), ((0, 4),))
        self.assertEqual(line_by(((0, 4),), 4), ((1, 4),))

    def test_rises_and_falls(self):
        for line in self.each():
            levels = levels_of(line)
            ups = [at for at in range(1, len(levels)) if levels[at] > levels[at - 1]]
            downs = [at for at in range(1, len(levels)) if levels[at] < levels[at - 1]]
            self.assertEqual(rises(line), tuple(ups))
            self.assertEqual(falls(line), tuple(downs))
        self.assertEqual(rises(((1, 3), (0, 1), (1, 1))), (4,))
        self.assertEqual(falls(((0, 3), (1, 1), (0, 1))), (4,))

    def test_joined(self):
        lines = list(self.each(60))
        for one in lines:
            other = self.chance.choice(lines)
            self.assertEqual(joined(one, other), line_of(levels_of(one) + levels_of(other)))
            self.assertEqual(joined(one, ()), one)
            self.assertEqual(joined((), one), one)
        self.assertEqual(joined(((0, 2), (1, 3)), ((1, 4), (0, 1))), ((0, 2), (1, 7), (0, 1)))
        self.assertEqual(joined(((0, 2),), ((0, 3),)), ((0, 5),))
        self.assertEqual(joined(((0, 2),), ((1, 3),)), ((0, 2), (1, 3)))
        self.assertEqual(joined((), ()), ())

    def test_stretch(self):
        for line in self.each(60):
            levels = levels_of(line)
            for begin in range(len(levels) + 1):
                for end in range(begin, len(levels) + 1):
                    self.assertEqual(stretch(line, begin, end), line_of(levels[begin:end]))
        self.assertEqual(stretch(((0, 10), (1, 10)), 4, 4), ())
        self.assertEqual(stretch(((0, 10), (1, 10)), 3, 9), ((0, 6),))

    def test_turned_and_slowed(self):
        for line in self.each():
            levels = levels_of(line)
            self.assertEqual(turned(line), line_of([1 - level for level in levels]))
            for times in (1, 2, 5):
                slow = [level for level in levels for _ in range(times)]
                self.assertEqual(slowed(line, times), line_of(slow))
            self.assertEqual(slowed(line, 1), line)

    def test_by_name(self):
        line = ((0, 2), (1, 3))
        self.assertEqual(long_of(line=line), 5)
        self.assertEqual(level_at(line=line, moment=2), 1)
        self.assertEqual(highs(line=line), ((2, 5),))
        self.assertEqual(line_by(some=((2, 5),), long=5), line)
        self.assertEqual(rises(line=line), (2,))
        self.assertEqual(falls(line=line), ())
        self.assertEqual(joined(one=line, other=()), line)
        self.assertEqual(stretch(line=line, begin=1, end=3), ((0, 1), (1, 1)))
        self.assertEqual(turned(line=line), ((1, 2), (0, 3)))
        self.assertEqual(slowed(line=line, times=2), ((0, 4), (1, 6)))

    def test_far_ones_quickly(self):
        long = BILLION // 200
        line = long_line(200, long)
        self.assertIs(self.quickly(is_line, line), True)
        self.assertEqual(self.quickly(long_of, line), BILLION)
        self.assertEqual(self.quickly(level_at, line, BILLION - 1), 1)
        self.assertEqual(self.quickly(level_at, line, BILLION - long - 1), 0)
        self.refused(NoMoment, {"moment": BILLION}, level_at, line, BILLION)
        self.assertEqual(len(self.quickly(highs, line)), 100)
        self.assertEqual(self.quickly(line_by, highs(line), BILLION), line)
        self.assertEqual(len(self.quickly(rises, line)), 100)
        self.assertEqual(len(self.quickly(falls, line)), 99)
        self.assertEqual(len(self.quickly(joined, line, turned(line))), 399)
        self.assertEqual(self.quickly(stretch, line, BILLION - 1, BILLION), ((1, 1),))
        self.assertEqual(self.quickly(slowed, ((1, 1),), BILLION), ((1, BILLION),))


if __name__ == "__main__":
    unittest.main()
