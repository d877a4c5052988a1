"""Points 22 and 23: papers of claims, looked at, against the document's words paper by paper."""

import random
import unittest

from tests.helper import Refusals, catch_of, some_catch
from tests.slow import slow_holds, truths
from tests.wishing import OTHER_WORDS, some_wish
from wirelooker.papers import paper_holds
from wirelooker.reasons import caught, reason
from wirelooker.wishtexts import read_wish

LINE = ("line",)
#                        0         1
#                        0123456789012345
CATCH = catch_of({"a": [int(sign) for sign in "0011100011110000"],
                  "b": [int(sign) for sign in "0100000000100001"]})
# Of each form of paper ones by hand: a wish, a begin, an end, a truth, a paper.
BY_HAND = [
    ("yes", 0, 16, True, LINE),
    ("high a", 2, 5, True, LINE),
    ("high a", 5, 8, False, LINE),
    ("low a", 0, 2, True, LINE),
    ("rise a", 8, 9, True, LINE),
    ("rise a", 3, 8, False, LINE),
    ("fall a", 5, 6, True, LINE),
    ("pulse a 1 3 3", 5, 6, True, LINE),
    ("pulse a 1 3 3", 6, 16, False, LINE),
    ("edges a 4 1 1", 2, 5, True, LINE),
    ("edges a 4 2 2", 5, 6, True, LINE),
    ("read 0 1 clocked b rise a - 1 high", 10, 11, True, LINE),
    ("read 0 1 clocked b rise a - 1 high", 2, 10, False, LINE),
    ("high a", 2, 5, True, ("split", ((3, LINE), (5, LINE)))),
    ("high a", 2, 5, True, ("split", ((5, LINE),))),
    ("high a", 2, 5, True, ("split", ((4, ("split", ((3, LINE), (4, LINE)))), (5, LINE)))),
    ("not high a", 5, 8, True, ("not", LINE)),
    ("not high a", 2, 5, False, ("not", LINE)),
    ("both high a low b", 2, 5, True, ("two", LINE, LINE)),
    ("either high a high b", 5, 8, False, ("two", LINE, LINE)),
    ("both high a high b", 5, 8, False, ("one", 0, LINE)),
    ("both high a high b", 2, 10, False, ("one", 1, LINE)),
    ("either high a high b", 2, 5, True, ("one", 0, LINE)),
    ("either high a high b", 10, 11, True, ("one", 1, LINE)),
    ("ago 3 high a", 5, 8, True, ("ago", LINE)),
    ("ago 3 high a", 3, 5, False, ("ago", LINE)),
    ("ago 3 high a", 0, 3, False, ("early",)),
    ("ago 3 high a", 0, 5, False, ("split", ((3, ("early",)), (5, ("ago", LINE))))),
    ("held 3 high a", 0, 2, False, ("early",)),
    ("within 2 high a", 3, 5, True, ("now", LINE)),
    ("held 2 high a", 5, 8, False, ("now", LINE)),
    ("within 2 high a", 4, 7, True, ("at", 4, LINE)),
    ("within 2 high a", 5, 7, True, ("at", 4, LINE)),
    ("within 9 high a", 5, 14, True, ("at", 4, LINE)),
    ("held 3 high a", 7, 10, False, ("at", 7, LINE)),
    ("held 3 high a", 9, 10, False, ("at", 7, LINE)),
    ("within 2 high a", 7, 8, False, ("all", LINE)),
    ("within 5 high a", 0, 2, False, ("all", LINE)),
    ("held 3 high a", 4, 5, True, ("all", LINE)),
    ("held 4 yes", 3, 9, True, ("all", LINE)),
    ("since high a rise a", 2, 3, True, ("now", LINE)),
    ("since high a rise a", 3, 5, True, ("since", 2, LINE, LINE)),
    ("since yes rise a", 9, 16, True, ("since", 2, LINE, LINE)),
    ("since high a high b", 0, 1, False, ("never", LINE)),
    ("since high a high b", 5, 10, False, ("broken", 5, LINE, LINE)),
    ("since high a high b", 6, 9, False, ("broken", 5, LINE, LINE)),
    ("nth 1 high a", 2, 3, True, ("count", False, ((2, LINE), (3, LINE)))),
    ("nth 2 high a", 8, 9, True, ("count", False, ((2, LINE), (5, LINE), (8, LINE), (9, LINE)))),
    ("nth 1 low a", 0, 1, True, ("count", True, ((1, LINE),))),
    ("nth 2 low a", 5, 6, True, ("count", True, ((2, LINE), (5, LINE), (6, LINE)))),
    ("nth 1 high a", 0, 2, False, ("count", False, ((2, LINE),))),
    ("nth 1 high a", 3, 16, False, ("count", False, ((2, LINE), (5, LINE), (8, LINE), (12, LINE), (16, LINE)))),
    ("nth 3 high a", 4, 9, False, ("count", False, ((2, LINE), (5, LINE), (8, LINE), (9, LINE)))),
]
THINGS = (None, True, False, 0, 1, -1, 7, 10 ** 30, "", "line", "all", (), ("",), (0,), ((),), LINE, (LINE,), ("early",),
          ("now", LINE), ("two", LINE, LINE), ("split", ()), ("count", True, ()))


def unlike(paper):
    """Things that are a paper with one thing otherwise."""
    if not isinstance(paper, tuple):
        yield from THINGS
        if isinstance(paper, int) and not isinstance(paper, bool):
            yield from (paper - 1, paper + 1, -paper, bool(paper), str(paper))
        return
    for at, thing in enumerate(paper):
        for other in unlike(thing):
            yield paper[:at] + (other,) + paper[at + 1:]
        yield paper[:at] + paper[at + 1:]
        yield paper[:at + 1] + paper[at:]
    yield paper + (LINE,)
    yield ("split", ((5, paper),))
    yield from THINGS
    for word in ("not", "now", "ago", "all", "never", "early", "line", "split", "two", "one", "count"):
        yield (word,) + paper[1:]


class TestPapers(Refusals, unittest.TestCase):
    def looked(self, catch, wish, begin, end, paper, truth):
        holds = paper_holds(catch, wish, begin, end, paper, truth=truth)
        self.assertIs(holds, slow_holds(catch, wish, begin, end, paper, truth), (wish, begin, end, paper, truth))
        if holds:
            self.assertTrue(all(so == truth for so in truths(catch, wish)[begin:end]))
        return holds

    def test_by_hand(self):
        for text, begin, end, truth, paper in BY_HAND:
            self.assertIs(self.looked(CATCH, read_wish(text), begin, end, paper, truth), True, (text, begin, end, paper))
        self.assertEqual({paper[0] for *_, paper in BY_HAND},
                         {"line", "split", "not", "two", "one", "ago", "early", "now", "at", "all", "since", "never",
                          "broken", "count"})

    def test_truth_left_out(self):
        self.assertIs(paper_holds(CATCH, ("high", "a"), 2, 5, LINE), True)
        self.assertIs(paper_holds(CATCH, ("high", "a"), 5, 8, LINE), False)
        self.assertIs(paper_holds(CATCH, ("high", "a"), 5, 8, LINE, truth=False), True)

    def test_other_begins_ends_truths_and_wishes(self):
        for text, begin, end, _, paper in BY_HAND:
            for truth in (True, False):
                for first in range(16):
                    self.looked(CATCH, read_wish(text), first, min(first + end - begin, 16), paper, truth)
                for last in range(begin + 1, 17):
                    self.looked(CATCH, read_wish(text), begin, last, paper, truth)
                for other, *_ in BY_HAND:
                    self.looked(CATCH, read_wish(other), begin, end, paper, truth)

    def test_one_thing_otherwise(self):
        held = 0
        for text, begin, end, truth, paper in BY_HAND:
            for other in unlike(paper):
                held += self.looked(CATCH, read_wish(text), begin, end, other, truth)
        self.assertGreater(held, 20)

    def test_edges_of_begin_and_end(self):
        def edge(text, truth, paper, let_by, refused):
            for begin, end in let_by:
                self.assertIs(self.looked(CATCH, read_wish(text), begin, end, paper, truth), True, (begin, end))
            for begin, end in refused:
                self.assertIs(self.looked(CATCH, read_wish(text), begin, end, paper, truth), False, (begin, end))

        edge("ago 3 yes", True, ("ago", LINE), [(3, 4), (3, 16)], [(2, 3), (2, 16), (0, 1)])
        edge("ago 3 yes", False, ("early",), [(0, 3), (2, 3)], [(0, 4), (3, 4)])
        edge("held 3 yes", False, ("early",), [(0, 2), (1, 2)], [(0, 3), (2, 3)])
        edge("held 3 yes", True, ("all", LINE), [(2, 3), (2, 16)], [(1, 2), (1, 3), (0, 16)])
        edge("held 1 yes", True, ("all", LINE), [(0, 1), (0, 16)], [])
        edge("within 3 yes", True, ("at", 2, LINE), [(2, 3), (2, 6), (5, 6)], [(1, 2), (2, 7), (6, 7)])
        edge("within 0 yes", True, ("at", 2, LINE), [(2, 3)], [(2, 4), (3, 4), (1, 2)])
        edge("held 3 not yes", False, ("at", 2, ("not", LINE)), [(2, 3), (2, 5), (4, 5)], [(1, 2), (2, 6), (5, 6)])
        edge("held 1 not yes", False, ("at", 2, ("not", LINE)), [(2, 3)], [(2, 4), (3, 4)])
        edge("within 3 high a", False, ("all", LINE), [(0, 1), (0, 2)], [(0, 3), (2, 3), (5, 6), (7, 8)])
        edge("within 2 high a", False, ("all", LINE), [(7, 8)], [(6, 8), (7, 9)])
        edge("since yes yes", True, ("since", 2, LINE, LINE), [(3, 4), (3, 16), (9, 16)], [(2, 3), (1, 5)])
        edge("since high a low b", True, ("since", 0, LINE, LINE), [], [(2, 5), (3, 5)])
        edge("since high a low b", True, ("since", 2, LINE, LINE), [(3, 4), (3, 5)], [(3, 6)])
        edge("since not yes not yes", False, ("broken", 2, ("not", LINE), ("not", LINE)), [(2, 3), (2, 16), (9, 16)],
             [(1, 2), (1, 16)])
        edge("since yes rise b", False, ("never", LINE), [(0, 1)], [(0, 2), (1, 2), (2, 3)])
        edge("yes", True, ("split", ((4, LINE), (9, LINE))), [(0, 9), (3, 9)], [(4, 9), (5, 9), (0, 8), (0, 10), (0, 4)])

    def test_count_and_its_claim(self):
        wish = read_wish("nth 2 high a")
        some = ((2, LINE), (5, LINE), (8, LINE), (9, LINE))
        more = some[:3] + ((12, LINE), (16, LINE))
        for begin, end, truth, paper, holds in (
                (8, 9, True, ("count", False, some), True), (7, 9, True, ("count", False, some), False),
                (8, 9, False, ("count", False, some), False), (8, 9, True, ("count", True, some), False),
                (8, 9, True, ("count", 0, some), False), (8, 9, True, ("count", False, list(some)), False),
                (0, 8, False, ("count", False, some[:3]), True), (5, 8, False, ("count", False, some[:3]), True),
                (0, 9, False, ("count", False, some), False), (9, 16, False, ("count", False, more), True),
                (8, 16, False, ("count", False, more), False), (15, 16, False, ("count", False, more), True),
                (15, 16, False, ("count", False, more[:4]), False), (8, 9, True, ("count", False, some[:3]), False),
                (8, 9, True, ("count", False, ((5, LINE), (8, LINE), (9, LINE))), False),
                (8, 9, True, ("count", False, ((2, LINE), (4, LINE), (5, LINE), (8, LINE), (9, LINE))), False)):
            self.assertIs(self.looked(CATCH, wish, begin, end, paper, truth), holds, (begin, end, truth, paper))

    def test_things_that_are_no_papers(self):
        deep = ()
        for _ in range(39):
            deep = (deep,)
        splits = LINE
        for _ in range(12):
            splits = ("split", ((5, splits),))
        for thing in (*THINGS, deep, ("split", deep), ("not", deep), [LINE], ["line"]):
            self.assertIs(paper_holds(CATCH, ("high", "a"), 2, 5, thing), thing == LINE, thing)
        self.assertIs(paper_holds(CATCH, ("high", "a"), 2, 5, splits), True)
        self.assertIs(paper_holds(CATCH, ("high", "a"), 5, 8, splits), False)

    def test_told_ones_with_things_otherwise(self):
        chance = random.Random(22)
        seen = set()
        for _ in range(600):
            catch = some_catch(chance, "abc", chance.randint(2, 16), chance.choice((1, 2, 5)))
            wish = some_wish(chance, "abc", chance.choice((1, 1, 2, 3)))
            many = sum(long for _, long in catch[0][1])
            begin = chance.randrange(many)
            end = chance.randint(begin + 1, many)
            claims = []
            told = reason(catch, wish, begin, end)
            claims.append((begin, end, told[1], True) if told[0] == "so" else (told[1], told[1] + 1, told[2], False))
            told = caught(catch, wish, begin=begin)
            if told[0] == "never" or told[3] is not None:
                claims.append((begin, many if told[0] == "never" else told[1], told[-1], False))
            for first, last, paper, truth in claims:
                self.assertIs(self.looked(catch, wish, first, last, paper, truth), True)
                seen.add((wish[0], truth))
                for _ in range(10):
                    self.looked(catch, wish, first, last, self.somewhere(chance, paper), truth)
                self.looked(catch, wish, first, last, paper, not truth)
                self.looked(catch, wish, chance.randint(0, first), last, paper, truth)
                self.looked(catch, wish, first, chance.randint(last, many), paper, truth)
        self.assertTrue(seen >= {(word, truth) for word in OTHER_WORDS for truth in (True, False)})

    def somewhere(self, chance, paper):
        """A paper with one thing otherwise, somewhere in it."""
        if isinstance(paper, tuple) and paper and chance.random() < 0.8:
            at = chance.randrange(len(paper))
            step = chance.randrange(8)
            if step == 0:
                return paper[:at] + paper[at + 1:]
            if step == 1:
                return paper[:at] + paper[at:at + 1] + paper[at:]
            return paper[:at] + (self.somewhere(chance, paper[at]),) + paper[at + 1:]
        if isinstance(paper, bool):
            return chance.choice((not paper, int(paper)))
        if isinstance(paper, int):
            return chance.choice((paper - 1, paper + 1, -1, bool(paper), paper + 10 ** 20))
        return chance.choice(THINGS)

    def test_no_claim_no_paper(self):
        for begin, end in ((3, 3), (4, 3), (-1, 3), (4, 17), (16, 17), (16, 16), (40, 50)):
            for truth in (True, False):
                for paper in (LINE, ("split", ((end, LINE),))):
                    self.assertIs(paper_holds(CATCH, ("rise", "a"), begin, end, paper, truth=truth), False)

    def test_what_was_handed_in_stays(self):
        text, begin, end, truth, paper = BY_HAND[-1]
        kept = (paper[0], paper[1], tuple(tuple(part) for part in paper[2]))
        self.assertIs(paper_holds(CATCH, read_wish(text), begin, end, paper, truth=truth), True)
        self.assertEqual(paper, kept)

    def test_a_thousand_tuples_quickly(self):
        line = tuple((at % 2, 1000000) for at in range(60))
        stretches = tuple((at + 1, LINE) for at in range(400))
        paper = ("split", stretches + ((1000000, LINE),))
        self.assertIs(self.quickly(paper_holds, (("a", line),), ("low", "a"), 0, 1000000, paper, seconds=1), True)
        self.assertIs(self.quickly(paper_holds, (("a", line),), ("low", "a"), 0, 1000001, paper, seconds=1), False)


if __name__ == "__main__":
    unittest.main()
