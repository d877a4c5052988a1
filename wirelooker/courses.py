"""Wishes moment by moment: what each part keeps of the moments ahead, just as much as it hangs on."""

from wirelooker.wishes import inner_of, parts_of

WANTED = {"high": 1, "low": 0, "rise": 1, "fall": 0}


def _begun(part):
    """What a part keeps ahead of the first moment."""
    word = part[0]
    if word in ("rise", "fall"):
        # As if the line had this level ahead, for at the first moment it neither rises nor falls.
        return WANTED[word]
    if word == "pulse":
        # As if the first run were too long: where a run begins with the lines, its end is no pulse.
        return part[4] + 1
    if word == "edges":
        return (None, *[False for _ in range(part[2] - 1)])
    if word == "ago":
        return tuple([False for _ in range(part[1])])
    if word == "nth":
        return (0, False)
    return 0


def _yes(_part, kept, _levels, _some):
    return (True, kept)


def _level(part, kept, levels, _some):
    return (levels[part[1]] == WANTED[part[0]], kept)


def _change(part, kept, levels, _some):
    """Kept is the level of the moment ahead."""
    level = levels[part[1]]
    return (level == WANTED[part[0]] and level != kept, level)


def _pulse(part, kept, levels, _some):
    """Kept is how long the run of the wanted level is, one more than the most where it is longer."""
    _, name, wanted, least, most = part
    if levels[name] == wanted:
        return (False, min(kept + 1, most + 1))
    return (kept > 0 and least <= kept <= most, 0)


def _edges(part, kept, levels, _some):
    """Kept are the level of the moment ahead, and whether the line rose or fell at each of those that still count."""
    _, name, _, least, most = part
    ahead, *changes = kept
    changes.append(ahead is not None and levels[name] != ahead)
    return (least <= sum(changes) <= most, (levels[name], *changes[1:]))


def _not(_part, kept, _levels, some):
    return (not some[0], kept)


def _both(_part, kept, _levels, some):
    return (some[0] and some[1], kept)


def _either(_part, kept, _levels, some):
    return (some[0] or some[1], kept)


def _ago(_part, kept, _levels, some):
    """Kept is whether the wish in it was so at each of the moments that are still due."""
    due = (*kept, some[0])
    return (due[0], due[1:])


def _within(part, kept, _levels, some):
    """Kept is at how many moments more it is so, whatever comes."""
    if some[0]:
        return (True, part[1])
    return (kept > 0, max(kept - 1, 0))


def _held(part, kept, _levels, some):
    """Kept is at how many moments on end the wish in it was so, as many as it wants at the most."""
    many = min(kept + 1, part[1]) if some[0] else 0
    return (many == part[1], many)


def _since(_part, kept, _levels, some):
    """Kept is whether it was so at the moment ahead."""
    so = some[1] or (some[0] and kept == 1)
    return (so, 1 if so else 0)


def _nth(part, kept, _levels, some):
    """Kept are how many times the wish in it began to be so, and whether it was so at the moment ahead."""
    many, ahead = kept
    # Behind the time that counts it is never so again, so nothing is kept of what comes.
    if many == part[1]:
        return (False, kept)
    many += 1 if some[0] and not ahead else 0
    return (many == part[1], (many, some[0]))


STEPS = {
    "yes": _yes,
    "high": _level,
    "low": _level,
    "rise": _change,
    "fall": _change,
    "pulse": _pulse,
    "edges": _edges,
    "not": _not,
    "both": _both,
    "either": _either,
    "ago": _ago,
    "within": _within,
    "held": _held,
    "since": _since,
    "nth": _nth,
}


class Course:
    """Wishes without words read, that go on together from moment to moment, each part by what it kept."""

    def __init__(self, wishes):
        self.parts = []
        self.tops = []
        for wish in wishes:
            self.tops.append(len(self.parts))
            self.parts.extend(parts_of(wish))
        self.inner = inner_of(self.parts)

    def begun(self):
        """What the parts keep ahead of the first moment, a tuple."""
        return tuple([_begun(part) for part in self.parts])

    def gone_on(self, kept, levels):
        """Which of the wishes are so at a moment of these levels, a list, and what the parts keep then."""
        so = [False for _ in self.parts]
        behind = list(kept)
        # From the last one on, for what is in a part stands behind it.
        for at in range(len(self.parts) - 1, -1, -1):
            part = self.parts[at]
            step = STEPS[part[0]]
            so[at], behind[at] = step(part, kept[at], levels, [so[number] for number in self.inner[at]])
        return ([so[top] for top in self.tops], tuple(behind))
