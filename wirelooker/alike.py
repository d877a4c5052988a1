"""Small wishes held against one another, over all catches that there are."""

from wirelooker.basics import bits_of
from wirelooker.courses import Course
from wirelooker.lines import line_by
from wirelooker.spans import singles


def wishes_alike(names, one, other):
    """Whether two wishes are so at the same moments of all catches of these lines; else a shortest that shows it."""
    catch = _shortest(names, [one, other])
    return ("same",) if catch is None else ("unlike", catch)


def soonest(names, wish):
    """A shortest catch of these lines at whose last moment a wish is so, None where there is none."""
    return _shortest(names, [wish])


def _shortest(names, wishes):
    """A shortest catch at whose last moment just one of the wishes, one or two, is so, None where there is none."""
    course = Course(wishes)
    choices = [dict(zip(names, bits_of(number, len(names)))) for number in range(1 << len(names))]
    # Each state that the wishes can come to, the soonest first, and for each the way that leads there.
    states = [course.begun()]
    ways = [None]
    seen = {states[0]: True}
    at = 0
    while at < len(states):
        for levels in choices:
            so, state = course.gone_on(states[at], levels)
            if sum(so) == 1:
                return _catch_of(names, [*_path_to(ways, at), levels])
            if state not in seen:
                seen[state] = True
                states.append(state)
                ways.append((at, levels))
        at += 1
    return None


def _path_to(ways, at):
    """The levels, moment by moment, that lead to a state, a list."""
    path = []
    while ways[at] is not None:
        at, levels = ways[at]
        path.append(levels)
    return path[::-1]


def _catch_of(names, path):
    """The catch of levels, moment by moment."""
    lines = []
    for name in names:
        high = singles([moment for moment, levels in enumerate(path) if levels[name] == 1])
        lines.append((name, line_by(high, len(path))))
    return tuple(lines)
