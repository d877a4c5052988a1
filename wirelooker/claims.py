"""Claims about the parts of a wish, and the claims that papers of them lead to.

A claim is (part, begin, end, truth): that the part of this number is so, or isn't, from a begin on below an end.
"""

from wirelooker.catches import moments_of
from wirelooker.paperrules import stretches_in
from wirelooker.seen import seen
from wirelooker.spans import end_by, others
from wirelooker.wishes import inner_of, parts_of


class Claims:
    """The claims about the parts of a wish on a catch."""

    def __init__(self, catch, wish):
        self.parts = parts_of(wish)
        self.inner = inner_of(self.parts)
        self.moments = moments_of(catch)
        plain = [at for at in range(len(self.parts)) if not self.inner[at]]
        # Counted once: many papers may lead to the same lines.
        self.seen = {at: seen(catch, self.parts[at]) for at in plain}
        self.unseen = {at: others(self.seen[at], self.moments) for at in plain}

    def under(self, claim, head, ends):
        """The claims of the papers in a claim's paper, a list; None where none of its papers has this head and ends."""
        part, begin, end, truth = claim
        if head[0] == "line":
            return [] if self._is_seen(claim) else None
        if head[0] == "split":
            return [(part, first, last, truth) for first, last in _steps(begin, end, ends)] or None
        if head[0] == "count":
            return self._counted(claim, head[1], ends)
        stretches = stretches_in(self.parts[part], begin, end, truth, head)
        if stretches is None:
            return None
        inner_truth = truth != (head[0] == "not")
        return [(self.inner[part][at], first, last, inner_truth) for at, first, last in stretches]

    def _is_seen(self, claim):
        """Whether it is seen from the lines that a claim is true."""
        part, begin, end, truth = claim
        if part not in self.seen:
            return False
        some = self.seen[part] if truth else self.unseen[part]
        return end_by(some, begin) >= end

    def _counted(self, claim, first, ends):
        """The claims that a count from 0 on leads to, by turns so and not so, the first one as told."""
        part, begin, end, truth = claim
        steps = _steps(0, end, ends)
        if self.parts[part][0] != "nth" or not steps:
            return None
        n = self.parts[part][1]
        begins = [there for there, _ in steps[0 if first else 1::2]]
        nth = begins[n - 1:n]
        if truth and (nth != [begin] or end != begin + 1):
            return None
        if not truth and [there for there in nth if begin <= there < end]:
            return None
        inner = self.inner[part][0]
        truths = [first, not first]
        return [(inner, here, there, truths[at & 1]) for at, (here, there) in enumerate(steps)]


def _steps(begin, end, ends):
    """The stretches from a begin on by their ends, (begin, end) each; none where they don't rise just to an end."""
    steps = []
    at = begin
    for there in ends:
        if there <= at:
            return []
        steps.append((at, there))
        at = there
    return steps if at == end else []
