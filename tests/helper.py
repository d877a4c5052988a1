"""What several tests need: levels moment by moment, lines and catches by chance, refusals with their fields."""

import time

BILLION = 1000000000


def levels_of(line):
    """The levels of a line, one for each moment."""
    return [level for level, long in line for _ in range(long)]


def line_of(levels):
    """The line of levels, one for each moment."""
    runs = []
    for level in levels:
        if runs and runs[-1][0] == level:
            runs[-1][1] += 1
        else:
            runs.append([level, 1])
    return tuple((level, long) for level, long in runs)


def spans_by(moments):
    """The spans of a set of moments."""
    found = []
    for moment in sorted(moments):
        if found and found[-1][1] == moment:
            found[-1][1] = moment + 1
        else:
            found.append([moment, moment + 1])
    return tuple((begin, end) for begin, end in found)


def some_levels(chance, many, longest=4):
    """Levels by chance, in runs of at most so many moments."""
    levels = []
    level = chance.randrange(2)
    while len(levels) < many:
        levels.extend([level] * chance.randint(1, longest))
        level = 1 - level
    return levels[:many]


def catch_of(rows):
    """The catch of a dict from names to levels."""
    return tuple((name, line_of(levels)) for name, levels in rows.items())


def some_catch(chance, names, many, longest=4):
    """A catch by chance of lines of these names."""
    return catch_of({name: some_levels(chance, many, longest) for name in names})


def long_line(runs, long, level=0):
    """A line of so many runs, each so long."""
    return tuple(((level + at) % 2, long) for at in range(runs))


class Refusals:
    """For a TestCase: what is refused, by the error's very class and its fields."""

    def refused(self, kind, fields, function, *things, **named):
        with self.assertRaises(kind) as caught:
            function(*things, **named)
        self.assertIs(type(caught.exception), kind)
        self.assertEqual(vars(caught.exception), fields)

    def quickly(self, function, *things, seconds=5):
        began = time.perf_counter()
        told = function(*things)
        self.assertLess(time.perf_counter() - began, seconds)
        return told
