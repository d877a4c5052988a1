"""Spans: sets of moments, as a tuple of (begin, end) that rise and don't touch."""


def spans_of(pairs):
    """The spans of any pairs (begin, end), in any order, also touching, in one another, empty."""
    found = []
    for begin, end in sorted([tuple(pair) for pair in pairs]):
        if found and begin <= found[-1][1]:
            found[-1] = (found[-1][0], max(found[-1][1], end))
        elif begin < end:
            found.append((begin, end))
    return tuple(found)


def both_of(one, other):
    """The moments that are in both."""
    found = []
    here = 0
    there = 0
    while here < len(one) and there < len(other):
        begin = max(one[here][0], other[there][0])
        end = min(one[here][1], other[there][1])
        if begin < end:
            found.append((begin, end))
        if one[here][1] < other[there][1]:
            here += 1
        else:
            there += 1
    return tuple(found)


def either_of(one, other):
    """The moments that are in one of them, or in both."""
    return spans_of([*one, *other])


def others(some, below):
    """The moments below a number that aren't in some."""
    found = []
    at = 0
    for begin, end in some:
        if at < min(begin, below):
            found.append((at, min(begin, below)))
        at = end
    if at < below:
        found.append((at, below))
    return tuple(found)


def later(some, n):
    """All the moments, n moments later."""
    return tuple([(begin + n, end + n) for begin, end in some])


def grown(some, n):
    """The moments t of which some moment from t - n to t is in some."""
    return spans_of([(begin, end + n) for begin, end in some])


def worn(some, n):
    """The moments t of which all moments from t - n to t are in some."""
    return tuple([(begin + n, end) for begin, end in some if begin + n < end])


def between(some, begin, end):
    """The moments of some from a begin on below an end."""
    return both_of(some, spans_of([(begin, end)]))


def is_in(some, moment):
    """Whether a moment is in some."""
    return any([begin <= moment < end for begin, end in some])


def how_many(some):
    """How many moments there are."""
    return sum([end - begin for begin, end in some])


def first_of(some):
    """The first moment, None without any."""
    if not some:
        return None
    return some[0][0]


def singles(moments):
    """The spans of single moments, a list or a tuple."""
    return spans_of([(moment, moment + 1) for moment in moments])


def grouped(moments, some):
    """For each of the spans a list of those of the moments, which rise, that are in it."""
    groups = []
    at = 0
    for begin, end in some:
        group = []
        while at < len(moments) and moments[at] < end:
            if moments[at] >= begin:
                group.append(moments[at])
            at += 1
        groups.append(group)
    return groups


def end_by(some, moment):
    """The end of the span that a moment is in, the moment itself where it is in none."""
    span = _last_from(some, moment)
    return moment if span is None else max(moment, span[1])


def last_by(some, moment):
    """The last moment of some that is at most this one, None without any."""
    span = _last_from(some, moment)
    return None if span is None else min(moment, span[1] - 1)


def _last_from(some, moment):
    """The last span that begins at a moment or ahead of it, None without any."""
    low = 0
    high = len(some)
    # Papers ask this very often of the same spans, so they are halved, not gone through.
    while low < high:
        middle = (low + high) // 2
        if some[middle][0] <= moment:
            low = middle + 1
        else:
            high = middle
    return some[low - 1] if low > 0 else None
