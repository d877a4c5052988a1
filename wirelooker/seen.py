"""What is seen from the lines alone: the spans of wishes without others in them."""

from wirelooker.catches import line_in, moments_of
from wirelooker.lines import falls, highs, rises, turned
from wirelooker.reading import read_words
from wirelooker.spans import between, singles, spans_of


def seen(catch, wish):
    """The spans of a catch at which a wish without others in it is so."""
    if wish[0] == "yes":
        return spans_of([(0, moments_of(catch))])
    if wish[0] == "read":
        return _reads(catch, wish)
    line = line_in(catch, wish[1])
    if wish[0] == "high":
        return highs(line)
    if wish[0] == "low":
        return highs(turned(line))
    if wish[0] == "rise":
        return singles(rises(line))
    if wish[0] == "fall":
        return singles(falls(line))
    if wish[0] == "pulse":
        return _pulses(line, wish)
    return _edges(line, wish, moments_of(catch))


def _reads(catch, wish):
    _, protocol, least, most = wish
    words = [item for item in read_words(catch, protocol) if item[0] == "word"]
    return singles([places[-1][1] for _, number, _, _, places in words if least <= number <= most])


def _pulses(line, wish):
    _, _, wanted, least, most = wish
    found = []
    begin = 0
    # The last run is left out: no moment of the line is behind it.
    for level, long in line[:-1]:
        if level == wanted and begin > 0 and least <= long <= most:
            found.append(begin + long)
        begin += long
    return singles(found)


def _edges(line, wish, moments):
    _, _, n, least, most = wish
    changes = [*rises(line), *falls(line)]
    # Each change counts from its moment on, and n moments later no more.
    steps = [(moment, 1) for moment in changes] + [(moment + n, -1) for moment in changes]
    pairs = []
    begin = 0
    many = 0
    for moment, step in sorted([*steps, (moments, 0)]):
        if least <= many <= most:
            pairs.append((begin, moment))
        begin = moment
        many += step
    return between(spans_of(pairs), 0, moments)
