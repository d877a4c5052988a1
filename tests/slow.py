"""Slow ways, moment by moment and word by word of the document, to tell what the program tells quickly."""

from tests.helper import levels_of
from tests.test_clocked import slow_items as slow_clocked
from tests.test_framed import slow_items as slow_framed
from tests.test_twowire import slow_items as slow_twowire

READERS = {"clocked": slow_clocked, "framed": slow_framed, "twowire": slow_twowire}
PLAIN = ("yes", "high", "low", "rise", "fall", "pulse", "edges", "read")


def slow_words(catch, protocol):
    """The items that a protocol reads from a catch."""
    return READERS[protocol[0]](catch, protocol)


def truths(catch, wish):
    """Whether a wish is so, a list with a truth for each moment of a small catch."""
    moments = range(sum(long for _, long in catch[0][1]))
    if wish[0] in PLAIN:
        return plain_truths(catch, wish, moments)
    inner = [truths(catch, part) for part in wish[1:] if isinstance(part, tuple)]
    return [is_so_at(wish, inner, t) for t in moments]


def plain_truths(catch, wish, moments):
    word = wish[0]
    if word == "yes":
        return [True for _ in moments]
    if word == "read":
        lasts = [item[4][-1][1] for item in slow_words(catch, wish[1])
                 if item[0] == "word" and wish[2] <= item[1] <= wish[3]]
        return [t in lasts for t in moments]
    levels = levels_of(dict(catch)[wish[1]])
    rises = [t > 0 and levels[t - 1] == 0 and levels[t] == 1 for t in moments]
    falls = [t > 0 and levels[t - 1] == 1 and levels[t] == 0 for t in moments]
    if word == "pulse":
        return [pulse_at(levels, wish, t) for t in moments]
    if word == "edges":
        _, _, n, low, high = wish
        return [low <= sum(rises[s] or falls[s] for s in moments if t - n + 1 <= s <= t) <= high for t in moments]
    return {"high": [level == 1 for level in levels], "low": [level == 0 for level in levels],
            "rise": rises, "fall": falls}[word]


def pulse_at(levels, wish, t):
    _, _, level, low, high = wish
    if t == 0 or levels[t] == level or levels[t - 1] != level:
        return False
    begin = t - 1
    while begin > 0 and levels[begin - 1] == level:
        begin -= 1
    return begin >= 1 and low <= t - begin <= high


def is_so_at(wish, inner, t):
    word = wish[0]
    one, other = inner[0], inner[-1]
    if word == "not":
        return not one[t]
    if word == "both":
        return one[t] and other[t]
    if word == "either":
        return one[t] or other[t]
    if word == "since":
        return any(other[s] and all(one[s + 1:t + 1]) for s in range(t + 1))
    n = wish[1]
    if word == "ago":
        return t >= n and one[t - n]
    if word == "within":
        return any(one[s] for s in range(t + 1) if s >= t - n)
    if word == "held":
        return t >= n - 1 and all(one[s] for s in range(t + 1) if s > t - n)
    begins = [s for s in range(t + 1) if one[s] and (s == 0 or not one[s - 1])]
    return t in begins and begins.index(t) == n - 1


def slow_holds(catch, wish, begin, end, paper, truth):
    """Whether a thing is a paper of a claim, wish by wish as the document tells it."""
    if not isinstance(paper, tuple) or not paper or not isinstance(paper[0], str):
        return False
    form, *rest = paper
    if form == "split":
        return len(rest) == 1 and all_hold(catch, wish, begin, end, rest[0], lambda at: truth)
    if wish[0] in PLAIN:
        return paper == ("line",) and all(so == truth for so in truths(catch, wish)[begin:end])
    if wish[0] == "nth":
        return form == "count" and len(rest) == 2 and count_holds(catch, wish, begin, end, rest, truth)
    numbers = [thing for thing in rest[:1] if form in ("one", "at", "since", "broken")]
    if not all(is_from_0(number) for number in numbers):
        return False
    shape = (wish[0], truth, form, len(rest))

    def holds(inner, first, behind, inner_paper, inner_truth=truth):
        return slow_holds(catch, inner, first, behind, inner_paper, inner_truth)

    if wish[0] in ("ago", "within", "held"):
        return back_holds(wish, begin, end, rest, shape, holds)
    if shape == ("not", truth, "not", 1):
        return holds(wish[1], begin, end, rest[0], not truth)
    if shape in (("both", True, "two", 2), ("either", False, "two", 2)):
        return holds(wish[1], begin, end, rest[0]) and holds(wish[2], begin, end, rest[1])
    if shape in (("both", False, "one", 2), ("either", True, "one", 2)):
        return rest[0] in (0, 1) and holds(wish[1 + rest[0]], begin, end, rest[1])
    if shape == ("since", True, "now", 1):
        return holds(wish[2], begin, end, rest[0])
    if shape == ("since", True, "since", 3):
        s = rest[0]
        return s < begin and holds(wish[2], s, s + 1, rest[1]) and holds(wish[1], s + 1, end, rest[2])
    if shape == ("since", False, "never", 1):
        return holds(wish[2], 0, end, rest[0])
    if shape == ("since", False, "broken", 3):
        s = rest[0]
        return s <= begin and holds(wish[1], s, s + 1, rest[1]) and holds(wish[2], s, end, rest[2])
    return False


def back_holds(wish, begin, end, rest, shape, holds):
    n = wish[1]
    if shape in (("ago", True, "ago", 1), ("ago", False, "ago", 1)):
        return begin >= n and holds(wish[2], begin - n, end - n, rest[0])
    if shape == ("ago", False, "early", 0):
        return end <= n
    if shape == ("held", False, "early", 0):
        return end <= n - 1
    if shape in (("within", True, "now", 1), ("held", False, "now", 1)):
        return holds(wish[2], begin, end, rest[0])
    if shape in (("within", True, "at", 2), ("held", False, "at", 2)):
        s = rest[0]
        beyond = end - 1 > s + n if wish[0] == "within" else end > s + n
        return s <= begin and not beyond and holds(wish[2], s, s + 1, rest[1])
    if shape == ("within", False, "all", 1):
        return holds(wish[2], begin - n if begin > n else 0, end, rest[0])
    if shape == ("held", True, "all", 1):
        return begin >= n - 1 and holds(wish[2], begin - n + 1, end, rest[0])
    return False


def is_from_0(thing):
    return type(thing) is int and thing >= 0


def all_hold(catch, wish, begin, end, some, truth_of):
    """Whether stretches rise from a begin to an end, and each one's paper is one of a truth."""
    if not isinstance(some, tuple) or not some:
        return False
    for at, part in enumerate(some):
        if not isinstance(part, tuple) or len(part) != 2 or not is_from_0(part[0]) or part[0] <= begin:
            return False
        if part[0] > end or not slow_holds(catch, wish, begin, part[0], part[1], truth_of(at)):
            return False
        begin = part[0]
    return begin == end


def count_holds(catch, wish, begin, end, rest, truth):
    first, some = rest
    if type(first) is not bool or not all_hold(catch, wish[2], 0, end, some, lambda at: first == (at % 2 == 0)):
        return False
    starts = [0] + [m for m, _ in some[:-1]]
    begins = starts[0 if first else 1::2]
    b = begins[wish[1] - 1] if len(begins) >= wish[1] else None
    if truth:
        return b == begin and end == b + 1
    return b is None or not begin <= b < end
