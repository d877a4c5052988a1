"""Patterns looked for in rows of numbers."""


def fits_in(row, pattern):
    """For each begin from which a pattern fits the numbers of a row, (begin, the nearest end), a rising list."""
    # For each begin the nearest end of what of the pattern is behind, None where that doesn't fit.
    ends = list(range(len(row) + 1))
    for thing in pattern[::-1]:
        if thing[0] == "gap":
            ends = _over_gap(ends, thing)
        else:
            ends = [end if _is_one(number, thing) else None for number, end in zip(row, ends[1:])] + [None]
    return [(begin, end) for begin, end in enumerate(ends) if end is not None]


def _is_one(number, thing):
    """Whether a number is one of those that a thing of a pattern, no gap, stands for."""
    if thing[0] == "is":
        return number == thing[1]
    return thing[0] == "any" or thing[1] <= number <= thing[2]


def _over_gap(ends, gap):
    """The nearest ends from ahead of a gap, by those from behind it."""
    _, low, high = gap
    # From a later begin what is behind never ends nearer, so of all gaps only the least that fits is looked at.
    firsts = _first_fits(ends)
    told = []
    for begin in range(len(ends)):
        first = firsts[begin + low] if begin + low < len(ends) else None
        told.append(ends[first] if first is not None and first <= begin + high else None)
    return told


def _first_fits(ends):
    """For each begin the first one from there on that has an end, None where none has, a list."""
    firsts = []
    first = None
    for begin in range(len(ends) - 1, -1, -1):
        if ends[begin] is not None:
            first = begin
        firsts.append(first)
    return firsts[::-1]
