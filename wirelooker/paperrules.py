"""What the papers in a paper are of: for each form of paper the wishes, the stretches, and where it may stand at all.

Each rule tells, of a wish with others in it, a begin, an end and the number in the paper's head, a list with
(inner wish, begin, end) for each paper in it, None where no such paper is one of this stretch.
"""


def _not(wish, begin, end, number):
    return [(0, begin, end)]


def _two(wish, begin, end, number):
    return [(0, begin, end), (1, begin, end)]


def _one(wish, begin, end, number):
    return [(number, begin, end)] if number <= 1 else None


def _ago(wish, begin, end, number):
    n = wish[1]
    return [(0, begin - n, end - n)] if begin >= n else None


def _early(wish, begin, end, number):
    behind = wish[1] if wish[0] == "ago" else wish[1] - 1
    return [] if end <= behind else None


def _now(wish, begin, end, number):
    return [(1 if wish[0] == "since" else 0, begin, end)]


def _at(wish, begin, end, number):
    reach = number + wish[1] if wish[0] == "held" else number + wish[1] + 1
    return [(0, number, number + 1)] if number <= begin and end <= reach else None


def _all(wish, begin, end, number):
    if wish[0] == "within":
        return [(0, max(begin - wish[1], 0), end)]
    first = begin - wish[1] + 1
    return [(0, first, end)] if first >= 0 else None


def _since(wish, begin, end, number):
    return [(1, number, number + 1), (0, number + 1, end)] if number < begin else None


def _never(wish, begin, end, number):
    return [(1, 0, end)]


def _broken(wish, begin, end, number):
    return [(0, number, number + 1), (1, number, end)] if number <= begin else None


# The wishes and truths of whose claims papers are; line, split and count aside, whose rules aren't told by stretches.
SORTS = {
    "not": (("not", True), ("not", False)),
    "two": (("both", True), ("either", False)),
    "one": (("both", False), ("either", True)),
    "ago": (("ago", True), ("ago", False)),
    "early": (("ago", False), ("held", False)),
    "now": (("within", True), ("held", False), ("since", True)),
    "at": (("within", True), ("held", False)),
    "all": (("within", False), ("held", True)),
    "since": (("since", True),),
    "never": (("since", False),),
    "broken": (("since", False),),
}
RULES = {
    "not": _not,
    "two": _two,
    "one": _one,
    "ago": _ago,
    "early": _early,
    "now": _now,
    "at": _at,
    "all": _all,
    "since": _since,
    "never": _never,
    "broken": _broken,
}


def stretches_in(wish, begin, end, truth, head):
    """What each paper in a paper with this head is of, as the rules tell it, a list; None where it may not stand."""
    if (wish[0], truth) not in SORTS[head[0]]:
        return None
    rule = RULES[head[0]]
    return rule(wish, begin, end, head[-1])
