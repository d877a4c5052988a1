"""Catches held against one another, the second one shifted."""

from math import gcd

from wirelooker.catches import look_names, moments_of, names_of
from wirelooker.errors import Nothing
from wirelooker.lines import highs, long_of, turned
from wirelooker.spans import both_of, how_many, later, spans_of

FAR = 1000


def unlike_at(one, other, *, shift=0):
    """How often two catches are unlike, the second shifted; refused with NoCatch where it has other names."""
    look_names(names_of(one), other)
    shared = [how_many(both_of(some, later(more, shift))) for some, more in _shared_by(one, other)]
    return _moments_in(one) + _moments_in(other) - sum(shared)


def best_shift(one, other, *, most=FAR):
    """The shift, at most so far, at which two catches are unlike the least often, and how often; refused likewise."""
    look_names(names_of(one), other)
    bends = _bends_of(one, other)
    # Between two bends it grows or falls evenly, so the least is at a bend, at an end, or, where it is even, at 0.
    for shift in (-most, 0, most):
        bends.setdefault(shift, 0)
    told = []
    many = _moments_in(one) + _moments_in(other)
    slope = 0
    at = 0
    for shift in sorted(bends):
        many += slope * (shift - at)
        slope += bends[shift]
        at = shift
        if -most <= shift <= most:
            told.append((many, abs(shift), shift))
    many, _, shift = min(told)
    return (shift, many)


def share(one, other):
    """How often two catches are unlike, out of how many moments, (upper, lower); refused with NoCatch, then Nothing."""
    upper = unlike_at(one, other)
    lower = max(moments_of(one), moments_of(other)) * len(one)
    if lower == 0:
        raise Nothing()
    common = gcd(upper, lower)
    return (upper // common, lower // common)


def _moments_in(catch):
    """How many moments the lines of a catch have, all together."""
    return sum([long_of(line) for _, line in catch])


def _shared_by(one, other):
    """Pairs of spans, of the one and of the other; for each moment in both of a pair they are unlike once less."""
    pairs = []
    for (_, line), (_, more) in zip(one, other):
        # A moment that both have counts once, not once for each, and where the levels are alike not at all.
        pairs.append((_all_of(line), _all_of(more)))
        pairs.append((highs(line), highs(more)))
        pairs.append((highs(turned(line)), highs(turned(more))))
    return pairs


def _all_of(line):
    return spans_of([(0, long_of(line))])


def _bends_of(one, other):
    """From each shift behind which they get unlike faster, or slower, to how much faster, a dict."""
    bends = {}
    for some, more in _shared_by(one, other):
        for begin, end in some:
            for first, behind in more:
                # What two spans share grows from where they touch, stays while one is in the other, and falls again.
                for shift, step in ((begin - behind, -1), (begin - first, 1), (end - behind, 1), (end - first, -1)):
                    bends[shift] = bends.get(shift, 0) + step
    return bends
