"""Lines made of words, that are read as just these words."""

from wirelooker.basics import bits_of
from wirelooker.catches import cut
from wirelooker.errors import NoNumber
from wirelooker.protocols import lines_of

HALF = 2


def made(protocol, groups, *, half=HALF):
    """The catch of a protocol's lines that says these groups, refused with NoNumber of the first number beyond."""
    _look_groups(protocol, groups)
    if protocol[0] == "clocked":
        steps = _clocked_steps(protocol, groups, half)
    elif protocol[0] == "framed":
        steps = _framed_steps(protocol, groups, half)
    else:
        steps = _twowire_steps(groups, half)
    return tuple([(name, _line_of(steps, at)) for at, name in enumerate(lines_of(protocol))])


def cut_out(catch, item):
    """The stretch of a catch from which a word, clocked or framed, is read alone."""
    _, _, begin, end, _ = item
    return cut(catch, begin - 1, end)


def _look_groups(protocol, groups):
    """Refuses, with NoNumber, the first number that has more bits than the protocol's words."""
    beyond = 1 << _bits_in(protocol)
    for at, group in enumerate(groups):
        numbers = [number for number, _ in group] if protocol[0] == "twowire" else group
        for place, number in enumerate(numbers):
            if not 0 <= number < beyond:
                raise NoNumber(at, place)


def _bits_in(protocol):
    """How many bits a word of a protocol has."""
    if protocol[0] == "clocked":
        return protocol[5]
    if protocol[0] == "framed":
        return protocol[3]
    return 8


def _line_of(steps, at):
    """The line of the levels at one place of steps, (levels, long) each."""
    runs = []
    for levels, long in steps:
        if runs and runs[-1][0] == levels[at]:
            runs[-1] = (levels[at], runs[-1][1] + long)
        else:
            runs.append((levels[at], long))
    return tuple(runs)


def _clocked_steps(protocol, groups, half):
    """Steps of the levels of clock, data and gate; the gate's stand there without a gate, too."""
    _, _, edge, _, _, bits, first = protocol
    rest = 0 if edge == "rise" else 1
    steps = [((rest, 0, 1), half)]
    for group in groups:
        for number in group:
            levels = bits_of(number, bits)
            for level in levels if first == "high" else levels[::-1]:
                steps.append(((rest, level, 0), half))
                steps.append(((1 - rest, level, 0), half))
        steps.append(((rest, 0, 0), half))
        steps.append(((rest, 0, 1), half))
    return steps


def _framed_steps(protocol, groups, half):
    """Steps of the level of data."""
    long = protocol[2]
    steps = [((1,), half)]
    for group in groups:
        for number in group:
            steps.extend([((level,), long) for level in _frame_of(protocol, number)])
        steps.append(((1,), half))
    return steps


def _frame_of(protocol, number):
    """The levels of a number's frame, a list: start, bits, the lowest first, check, stops."""
    _, _, _, bits, check, stops = protocol
    levels = bits_of(number, bits)[::-1]
    odd = sum(levels) & 1
    checks = {"none": [], "even": [odd], "odd": [1 - odd]}
    return [0] + levels + checks[check] + [1] * stops


def _twowire_steps(groups, half):
    """Steps of the levels of clock and data."""
    steps = [((1, 1), half)]
    for group in groups:
        steps.append(((1, 0), half))
        for number, answered in group:
            for level in [*bits_of(number, 8), 0 if answered else 1]:
                steps.append(((0, level), half))
                steps.append(((1, level), half))
        steps.extend([((0, 0), half), ((1, 0), half), ((1, 1), half)])
    return steps
