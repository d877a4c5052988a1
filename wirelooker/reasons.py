"""Reasons: papers that show that a wish is so, or where it isn't first."""

from wirelooker.claims import Claims
from wirelooker.meaning import whens
from wirelooker.paperforms import put_together
from wirelooker.spans import between, end_by, first_of, last_by, others


def reason(catch, wish, begin, end):
    """("so", paper) where a wish is so from a begin on below an end, else ("fails", moment, paper) of the first."""
    writer = Writer(catch, wish)
    moment = first_of(between(writer.spans[False][0], begin, end))
    if moment is None:
        return ("so", writer.paper_of((0, begin, end, True)))
    return ("fails", moment, writer.paper_of((0, moment, moment + 1, False)))


def caught(catch, wish, *, begin=0):
    """("caught", moment, paper, paper that it isn't so ahead) of the first from a begin on, or ("never", paper)."""
    writer = Writer(catch, wish)
    end = writer.claims.moments
    moment = first_of(between(writer.spans[True][0], begin, end))
    if moment is None:
        return ("never", writer.paper_of((0, begin, end, False)))
    ahead = writer.paper_of((0, begin, moment, False)) if begin < moment else None
    return ("caught", moment, writer.paper_of((0, moment, moment + 1, True)), ahead)


class Writer:
    """Writes papers of the claims about the parts of a wish on a catch that are true."""

    def __init__(self, catch, wish):
        self.claims = Claims(catch, wish)
        some = whens(catch, wish)
        # For each truth and each part the moments at which it has this truth.
        self.spans = {True: some, False: [others(part, self.claims.moments) for part in some]}

    def paper_of(self, claim):
        """A paper of a claim that is true."""
        plans = []
        due = [claim]
        while due:
            one = due.pop()
            head, ends = self._plan(one)
            under = self.claims.under(one, head, ends)
            plans.append((head, ends, len(under)))
            due.extend(under[::-1])
        papers = []
        # From the last one on: the papers in one are then the last ones there are, the first of them at the end.
        for head, ends, many in plans[::-1]:
            left = len(papers) - many
            papers[left:] = [put_together(head, ends, papers[left:][::-1])]
        return papers[0]

    def _plan(self, claim):
        """The head and the ends of a claim's paper."""
        part, begin, end, truth = claim
        if not self.claims.inner[part]:
            return (("line",), None)
        if self.claims.parts[part][0] == "nth":
            return self._count(part, end)
        at, head = self._farthest(part, begin, truth)
        if at >= end:
            return (head, None)
        ends = []
        while at < end:
            ends.append(at)
            at = self._farthest(part, at, truth)[0]
        return (("split",), [*ends, end])

    def _count(self, part, end):
        some = self.spans[True][self.claims.inner[part][0]]
        ends = [moment for span in some for moment in span if 0 < moment < end]
        return (("count", end_by(some, 0) > 0), [*ends, end])

    def _farthest(self, part, at, truth):
        """How far from a moment on a paper of a part, of its truth there, reaches without a split, and its head."""
        wish = self.claims.parts[part]
        reach = end_by(self.spans[truth][part], at)
        if wish[0] == "not":
            return (reach, ("not",))
        if wish[0] in ("both", "either"):
            if truth == (wish[0] == "both"):
                return (reach, ("two",))
            inner = self.claims.inner[part]
            return max([(end_by(self.spans[truth][inner[k]], at), ("one", k)) for k in (0, 1)])
        if wish[0] == "since":
            return self._since(part, at, truth, reach)
        return self._back(part, at, truth, reach)

    def _back(self, part, at, truth, reach):
        """Likewise of ago, within and held."""
        word, n, _ = self.claims.parts[part]
        early = n if word == "ago" else n - 1
        if word != "within" and not truth and at < early:
            return (early, ("early",))
        if word == "ago":
            return (reach, ("ago",))
        if truth == (word == "held"):
            return (reach, ("all",))
        some = self.spans[truth][self.claims.inner[part][0]]
        last = last_by(some, at)
        behind = last + n + 1 if word == "within" else last + n
        return max((end_by(some, at), ("now",)), (behind, ("at", last)))

    def _since(self, part, at, truth, reach):
        """Likewise of since."""
        one, other = self.claims.inner[part]
        last = last_by(self.spans[True][other], at)
        if not truth:
            return (reach, ("never",) if last is None else ("broken", last_by(self.spans[False][one], at)))
        if last == at:
            return (end_by(self.spans[True][other], at), ("now",))
        return (end_by(self.spans[True][one], at), ("since", last))
