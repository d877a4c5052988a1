"""What is so when: the moments of a catch at which a wish is so."""

from wirelooker.catches import moments_of
from wirelooker.errors import NoMoment
from wirelooker.seen import seen
from wirelooker.spans import between, both_of, either_of, grown, is_in, later, others, spans_of, worn
from wirelooker.wishes import inner_of, parts_of


def when(catch, wish):
    """The spans of all moments of a catch at which a wish is so."""
    return whens(catch, wish)[0]


def is_so(catch, wish, moment):
    """Whether a wish is so at a moment, refused with NoMoment where the catch has none such."""
    if not 0 <= moment < moments_of(catch):
        raise NoMoment(moment)
    return is_in(when(catch, wish), moment)


def first_when(catch, wish, *, begin=0):
    """The first moment from a begin on at which a wish is so, None where there is none."""
    for first, end in when(catch, wish):
        if begin < end:
            return max(begin, first)
    return None


def whens(catch, wish):
    """For each part of a wish the spans at which it is so, a list by their numbers."""
    parts = parts_of(wish)
    inner = inner_of(parts)
    moments = moments_of(catch)
    told = [() for _ in parts]
    # From the last one on, for what is in a part stands behind it.
    for at in range(len(parts) - 1, -1, -1):
        if inner[at]:
            told[at] = _when_part(parts[at], [told[number] for number in inner[at]], moments)
        else:
            told[at] = seen(catch, parts[at])
    return told


def _when_part(part, some, moments):
    """The spans at which a wish is so, by the spans of the wishes right in it and the moments of the catch."""
    word = part[0]
    if word == "not":
        return others(some[0], moments)
    if word == "both":
        return both_of(some[0], some[1])
    if word == "either":
        return either_of(some[0], some[1])
    if word == "since":
        return _since(some[0], some[1])
    n = part[1]
    if word == "nth":
        return spans_of([(begin, begin + 1) for begin, _ in some[0][n - 1:n]])
    if word == "ago":
        return between(later(some[0], n), 0, moments)
    if word == "within":
        return between(grown(some[0], n), 0, moments)
    return worn(some[0], n - 1)


def _since(one, other):
    """The moments at which one was so at each moment behind some moment at which the other was so."""
    pairs = []
    at = 0
    for begin, end in other:
        while at < len(one) and one[at][1] <= end:
            at += 1
        # Where one goes on right behind this span of the other, both go on as long as it does.
        goes_on = at < len(one) and one[at][0] <= end
        pairs.append((begin, one[at][1] if goes_on else end))
    return spans_of(pairs)
