"""Wishes, protocols and long catches by chance."""

from tests.helper import BILLION

LINE_WORDS = ("high", "low", "rise", "fall")
PLAIN_WORDS = ("yes", "pulse", "edges", "read") + LINE_WORDS
OTHER_WORDS = ("not", "both", "either", "ago", "within", "held", "since", "nth")


def some_protocol(chance, names):
    """A protocol by chance whose lines are among these names, three at least."""
    c, d, g = chance.sample(list(names), 3)
    bits = chance.choice((1, 2, 3))
    return chance.choice((
        ("clocked", c, chance.choice(("rise", "fall")), d, chance.choice(("", g)), bits, chance.choice(("high", "low"))),
        ("framed", d, chance.randint(2, 4), bits, chance.choice(("none", "even", "odd")), chance.choice((1, 2))),
        ("twowire", c, d),
    ))


def some_plain(chance, names, far=8):
    """A wish by chance without others in it."""
    word = chance.choice(PLAIN_WORDS)
    low = chance.randint(0, 3)
    high = min(BILLION, low + chance.choice((0, 1, 3, far)))
    name = chance.choice(list(names))
    if word == "yes":
        return ("yes",)
    if word == "pulse":
        return (word, name, chance.randint(0, 1), low, high)
    if word == "edges":
        return (word, name, chance.randint(1, far), low, high)
    if word == "read":
        return (word, some_protocol(chance, names), low, high)
    return (word, name)


def some_wish(chance, names, depth, far=8, words=OTHER_WORDS):
    """A wish by chance, at most so deep."""
    if depth == 0 or chance.random() < 0.15:
        return some_plain(chance, names, far)
    word = chance.choice(words)
    inner = [some_wish(chance, names, depth - 1, far, words) for _ in range(2)]
    if word == "not":
        return (word, inner[0])
    if word in ("both", "either", "since"):
        return (word, *inner)
    least = 1 if word in ("held", "nth") else 0
    return (word, chance.randint(least, chance.choice((2, 2, far))), inner[0])


def some_long_line(chance, runs, moments=BILLION):
    """A line by chance of so many runs and so many moments."""
    ends = sorted(chance.sample(range(1, moments), runs - 1)) + [moments]
    first = chance.randint(0, 1)
    return tuple(((first + at) % 2, end - (ends[at - 1] if at else 0)) for at, end in enumerate(ends))
