"""Lines: the levels of a wire, moment by moment, as a tuple of runs (level, long)."""

from wirelooker.basics import is_whole
from wirelooker.errors import NoMoment


def is_line(thing):
    """Whether any thing is a line."""
    if not isinstance(thing, tuple) or not all([_is_run(run) for run in thing]):
        return False
    return all([thing[at][0] != thing[at - 1][0] for at in range(1, len(thing))])


def _is_run(thing):
    if not isinstance(thing, tuple) or len(thing) != 2:
        return False
    level, long = thing
    return is_whole(level) and 0 <= level <= 1 and is_whole(long) and long >= 1


def long_of(line):
    """How many moments a line has."""
    return sum([long for _, long in line])


def level_at(line, moment):
    """The level at a moment, refused with NoMoment where the line has none such."""
    if not 0 <= moment < long_of(line):
        raise NoMoment(moment)
    return level_by(line, ends_of(line), moment)


def ends_of(line):
    """For each run of a line the moment behind it, a list."""
    ends = []
    end = 0
    for _, long in line:
        end += long
        ends.append(end)
    return ends


def level_by(line, ends, moment):
    """The level at a moment that a line has, by the ends of its runs."""
    low = 0
    high = len(ends) - 1
    # Lines that were put together may have very many runs, so their ends are halved, not gone through.
    while low < high:
        middle = (low + high) // 2
        if moment < ends[middle]:
            high = middle
        else:
            low = middle + 1
    return line[low][0]


def highs(line):
    """The spans at which a line is high."""
    found = []
    begin = 0
    for level, long in line:
        if level == 1:
            found.append((begin, begin + long))
        begin += long
    return tuple(found)


def line_by(some, long):
    """The line of so many moments that is high at just these spans."""
    runs = []
    at = 0
    for begin, end in some:
        if at < begin:
            runs.append((0, begin - at))
        runs.append((1, end - begin))
        at = end
    if at < long:
        runs.append((0, long - at))
    return tuple(runs)


def rises(line):
    """The moments at which a line is high, and low at the moment ahead."""
    return _begins(line, 1)


def falls(line):
    """The moments at which a line is low, and high at the moment ahead."""
    return _begins(line, 0)


def _begins(line, wanted):
    """The moments, behind 0, at which a run of the wanted level begins."""
    found = []
    begin = 0
    for level, long in line:
        if level == wanted and begin > 0:
            found.append(begin)
        begin += long
    return tuple(found)


def joined(one, other):
    """Two lines, one behind the other."""
    if not one or not other or one[-1][0] != other[0][0]:
        return (*one, *other)
    level, long = one[-1]
    return (*one[:-1], (level, long + other[0][1]), *other[1:])


def stretch(line, begin, end):
    """The stretch of a line from a begin on below an end, its moments counted from 0."""
    runs = []
    at = 0
    for level, long in line:
        first = max(at, begin)
        behind = min(at + long, end)
        if first < behind:
            runs.append((level, behind - first))
        at += long
    return tuple(runs)


def turned(line):
    """The line that is low where this one is high, and high where it is low."""
    return tuple([(1 - level, long) for level, long in line])


def slowed(line, times):
    """The line with each run so many times as long."""
    return tuple([(level, long * times) for level, long in line])
