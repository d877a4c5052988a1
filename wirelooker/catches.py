"""Catches: lines by their names, all with as many moments, as a tuple of (name, line)."""

from wirelooker.basics import is_name
from wirelooker.errors import NoCatch, NoLine
from wirelooker.lines import is_line, joined, long_of, stretch


def look_catch(catch):
    """True of a catch; any other thing is refused with NoCatch."""
    if not _has_form(catch):
        raise NoCatch("form", 0)
    for at, (name, line) in enumerate(catch):
        if not is_name(name) or name in names_of(catch[:at]):
            raise NoCatch("name", at)
        if not is_line(line):
            raise NoCatch("line", at)
        if long_of(line) != moments_of(catch):
            raise NoCatch("long", at)
    return True


def _has_form(thing):
    return isinstance(thing, tuple) and 1 <= len(thing) <= 5 and all([_is_pair(part) for part in thing])


def _is_pair(thing):
    return isinstance(thing, tuple) and len(thing) == 2 and isinstance(thing[0], str)


def names_of(catch):
    """The names of a catch's lines, a list."""
    return [name for name, _ in catch]


def moments_of(catch):
    """How many moments a catch has."""
    return long_of(catch[0][1])


def line_in(catch, name):
    """The line of a name, refused with NoLine where there is none."""
    for there, line in catch:
        if there == name:
            return line
    raise NoLine(name)


def put_behind(one, other):
    """Two catches, one behind the other, refused with NoCatch where the second has other names."""
    look_names(names_of(one), other)
    return tuple([(name, joined(line, more)) for (name, line), (_, more) in zip(one, other)])


def look_names(names, catch):
    """Refuses, with NoCatch, a catch that has other names than these, a list, or has them in another order."""
    told = names_of(catch)
    for at in range(max(len(names), len(told))):
        if names[at:at + 1] != told[at:at + 1]:
            raise NoCatch("name", at)


def cut(catch, begin, end):
    """The stretch of a catch from a begin on below an end."""
    return tuple([(name, stretch(line, begin, end)) for name, line in catch])


def just(catch, names):
    """The catch of just these of its names, in this order, refused with NoLine of the first that isn't there."""
    return tuple([(name, line_in(catch, name)) for name in names])
