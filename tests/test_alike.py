"""Point 43: small wishes held against one another over all catches."""

import itertools
import random
import unittest

from tests.helper import Refusals, catch_of
from tests.slow import truths
from wirelooker.alike import soonest, wishes_alike
from wirelooker.catches import look_catch, moments_of
from wirelooker.wishes import parts_of
from wirelooker.wishtexts import read_wish

RANGES = [(low, high) for low in range(3) for high in range(low, 3)]
ONES = [("not",), *[("ago", n) for n in range(3)], *[("within", n) for n in range(3)],
        *[(word, n) for word in ("held", "nth") for n in (1, 2)]]
TWOS = ("both", "either", "since")
# How many moments the catches have at the most that are all looked at, by how many lines.
MOST = {1: 6, 2: 3}


def plain_wishes(name):
    """All wishes without others in them of one line."""
    return [("yes",), *[(word, name) for word in ("high", "low", "rise", "fall")],
            *[("pulse", name, level, *some) for level in (0, 1) for some in RANGES],
            *[("edges", name, n, *some) for n in (1, 2) for some in RANGES]]


def some_small(chance, names, parts):
    """A wish by chance of so many parts."""
    if parts == 1:
        return chance.choice(plain_wishes(chance.choice(names)))
    if parts == 2 or chance.random() < 0.6:
        return (*chance.choice(ONES), some_small(chance, names, parts - 1))
    left = chance.randint(1, parts - 2)
    return (chance.choice(TWOS), some_small(chance, names, left), some_small(chance, names, parts - 1 - left))


class Alike(Refusals):
    """All catches of few moments, each wish's truths at their last moments counted once."""

    def few(self, names):
        """The catches of at most so many moments, six of one line, three of two, the shorter ones ahead."""
        if names not in self.catches:
            choices = list(itertools.product((0, 1), repeat=len(names)))
            self.catches[names] = [
                catch_of({name: [levels[at] for levels in told] for at, name in enumerate(names)})
                for many in range(1, MOST[len(names)] + 1) for told in itertools.product(choices, repeat=many)]
        return self.catches[names]

    def at_last(self, names, wish):
        """Whether a wish is so at the last moment of each of these catches."""
        if (names, wish) not in self.told:
            choices, most = 2 ** len(names), MOST[len(names)]
            # The longest ones stand last, and each shorter one is the beginning of some of them.
            longest = [truths(catch, wish) for catch in self.few(names)[-choices ** most:]]
            self.told[names, wish] = [longest[at * choices ** (most - many)][many - 1]
                                      for many in range(1, most + 1) for at in range(choices ** many)]
        return self.told[names, wish]

    def setUp(self):
        self.catches, self.told = {}, {}

    def looked_at(self, names, catch, wishes):
        """Looks that a catch is one at whose last moment just one of the wishes is so, and that no shorter one is."""
        shows = [sum(row) == 1 for row in zip(*[self.at_last(names, wish) for wish in wishes])]
        few = self.few(names)
        if catch is None:
            self.assertNotIn(True, shows, wishes)
            return
        self.assertIs(look_catch(catch), True)
        self.assertEqual([name for name, _ in catch], list(names))
        self.assertGreaterEqual(moments_of(catch), 1)
        self.assertEqual(sum(truths(catch, wish)[-1] for wish in wishes), 1, wishes)
        shorter = [at for at, other in enumerate(few) if moments_of(other) < moments_of(catch) and shows[at]]
        self.assertEqual(shorter, [], wishes)

    def alike(self, names, one, other):
        told = wishes_alike(names, one, other)
        self.assertIs(type(told), tuple)
        if told[0] == "same":
            self.assertEqual(told, ("same",))
        else:
            self.assertEqual((told[0], len(told)), ("unlike", 2))
        self.looked_at(names, told[1] if len(told) == 2 else None, [one, other])
        return told

    def soonest(self, names, wish):
        told = soonest(names, wish)
        self.looked_at(names, told, [wish])
        return told


class TestWishesAlike(Alike, unittest.TestCase):
    def test_told_ones(self):
        self.assertEqual(wishes_alike(["a"], ("high", "a"), ("not", ("low", "a"))), ("same",))
        self.assertIn(wishes_alike(["a"], ("high", "a"), ("low", "a")), [("unlike", (("a", ((level, 1),)),)) for level in (0, 1)])
        self.assertEqual(wishes_alike(names=["a"], one=("rise", "a"), other=("high", "a")), ("unlike", (("a", ((1, 1),)),)))
        word, catch = wishes_alike(("b", "a"), ("high", "a"), ("high", "b"))
        self.assertEqual((word, [name for name, _ in catch], moments_of(catch)), ("unlike", ["b", "a"], 1))
        self.assertEqual(wishes_alike(["a"], ("fall", "a"), ("pulse", "a", 1, 0, 2)), ("unlike", (("a", ((1, 1), (0, 1))),)))

    def test_each_pair_of_plain_ones(self):
        for names in ("a", "ab"):
            wishes = plain_wishes(names[0])
            for one, other in itertools.combinations_with_replacement(wishes, 2):
                self.assertEqual(self.alike(names, one, other) == ("same",), self.alike(names, other, one) == ("same",))
        for one, other in itertools.product(plain_wishes("a")[::3], plain_wishes("b")[::2]):
            self.alike("ab", one, other)

    def test_pairs_by_chance(self):
        chance = random.Random(43)
        same = 0
        for _ in range(700):
            names = chance.choice(("a", "a", "ab", "ba"))
            parts = chance.choice((2, 2, 3, 3, 4, 5, 6))
            left = chance.randint(1, parts - 1)
            told = self.alike(names, some_small(chance, names, left), some_small(chance, names, parts - left))
            same += told == ("same",)
        self.assertGreater(same, 10)

    def test_the_same_in_other_words(self):
        for texts in (
                ("high a", "not not high a"), ("high a", "both high a high a"), ("rise b", "either rise b rise b"),
                ("fall b", "within 0 fall b"), ("fall b", "held 1 fall b"), ("fall b", "ago 0 fall b"),
                ("ago 2 rise a", "ago 1 ago 1 rise a"), ("held 2 low a", "both low a ago 1 low a"),
                ("within 1 high a", "either high a ago 1 high a"), ("rise a", "both high a ago 1 low a"),
                ("low a", "not high a"), ("both high a high b", "not either low a low b"),
                ("both high a high b", "both high b high a"), ("either rise a high a", "high a"),
                ("since high a rise a", "both high a since yes rise a"), ("since yes yes", "yes"), ("within 2 yes", "yes"),
                ("pulse a 1 0 2", "pulse a 1 1 2"), ("edges a 2 0 2", "yes"), ("edges a 1 0 0", "not edges a 1 1 2"),
                ("nth 2 ago 1 yes", "nth 2 ago 2 yes"), ("nth 1 nth 1 high a", "nth 1 high a"),
                ("held 2 edges a 1 1 1", "edges a 2 2 2"), ("within 1 edges b 1 1 1", "edges b 2 1 2"),
                ("since high a high a", "high a")):
            one, other = (read_wish(text) for text in texts)
            told = self.alike("ab", one, other)
            told_back = self.alike("ba", other, one)
            self.assertEqual(told[0], told_back[0])
            self.assertEqual(told, ("same",), texts)

    def test_unlike_only_behind_some_moments(self):
        for one, other, moments in (
                ("ago 2 ago 2 high a", "ago 2 ago 2 yes", 5), ("nth 2 rise a", "not yes", 4),
                ("nth 2 pulse a 1 2 2", "nth 2 pulse a 1 2 1", None), ("ago 2 nth 2 pulse a 0 2 2", "both yes not yes", 9),
                ("pulse a 1 1 2", "pulse a 1 1 1", 4), ("ago 2 ago 2 ago 2 yes", "not yes", 7),
                ("since yes nth 2 fall a", "not yes", 4), ("held 2 held 2 high a", "held 2 high a", 2)):
            if moments is not None:
                told = self.alike("a", read_wish(one), read_wish(other))
                self.assertEqual(moments_of(told[1]), moments, (one, other))

    def test_the_same_again_and_what_is_handed_in(self):
        names = ["a", "b"]
        first = wishes_alike(names, ("high", "a"), ("rise", "b"))
        self.assertEqual(names, ["a", "b"])
        names.clear()
        self.assertEqual(wishes_alike(("a", "b"), ("high", "a"), ("rise", "b")), first)

    def test_many_moments_quickly(self):
        one = read_wish("ago 2 ago 2 ago 2 edges a 2 2 2")
        for other in ("high b", "edges b 2 1 1", "pulse b 0 2 2"):
            word, _ = self.quickly(wishes_alike, "ab", one, read_wish(other))
            self.assertEqual(word, "unlike")
        two = read_wish("ago 2 ago 2 edges a 2 2 2"), read_wish("ago 2 ago 2 edges a 2 2 2")
        self.assertEqual(self.quickly(wishes_alike, "ab", *two), ("same",))
        self.assertEqual(self.quickly(wishes_alike, "ab", read_wish("ago 2 ago 2 ago 2 ago 2 pulse a 1 2 2"), read_wish("ago 2 yes"))[0],
                         "unlike")


class TestSoonest(Alike, unittest.TestCase):
    def test_told_ones(self):
        self.assertEqual(soonest(["a"], ("high", "a")), (("a", ((1, 1),)),))
        self.assertEqual(soonest(names=("a",), wish=("rise", "a")), (("a", ((0, 1), (1, 1))),))
        self.assertEqual(soonest(["a"], ("pulse", "a", 1, 2, 2)), (("a", ((0, 1), (1, 2), (0, 1))),))
        self.assertEqual(soonest(["b", "a"], ("both", ("fall", "a"), ("rise", "b"))),
                         (("b", ((0, 1), (1, 1))), ("a", ((1, 1), (0, 1)))))
        self.assertEqual(moments_of(soonest(["a", "b"], ("ago", 2, ("yes",)))), 3)
        self.assertIsNone(soonest(["a"], ("not", ("yes",))))

    def test_each_one_of_few_parts(self):
        for names in ("a", "ab"):
            plain = plain_wishes("a")
            for wish in plain:
                self.soonest(names, wish)
                for word in ONES:
                    self.soonest(names, (*word, wish))
        for word, one, other in itertools.product(TWOS, plain_wishes("a")[::2], plain_wishes("b")[::4]):
            self.soonest("ab", (word, one, other))
            self.soonest("ba", (word, other, one))

    def test_by_chance(self):
        chance = random.Random(430)
        never = 0
        for _ in range(700):
            names = chance.choice(("a", "a", "ab", "ba"))
            wish = some_small(chance, names, chance.choice((3, 4, 5, 6)))
            self.assertLessEqual(len(parts_of(wish)), 6)
            never += self.soonest(names, wish) is None
        self.assertGreater(never, 50)

    def test_never_so(self):
        for text in ("not yes", "both high a low a", "held 2 rise a", "pulse a 1 0 0", "edges a 1 2 2", "nth 2 nth 1 high a", "nth 2 yes",
                     "both rise a rise a", "ago 1 both rise b fall b", "both ago 1 high a rise a", "held 2 pulse a 0 0 2",
                     "since yes not yes", "within 2 not yes", "nth 2 since yes high a", "nth 2 ago 2 yes", "both fall a high a",
                     "held 2 nth 2 high a", "both edges a 2 2 2 edges a 1 0 0", "both pulse a 1 0 2 pulse a 0 0 2"):
            wish = read_wish(text)
            if text != "both rise a rise a":
                self.assertIsNone(self.soonest("a" if "b" not in text.split() else "ab", wish), text)
            self.assertIsNotNone(self.soonest("ab", ("not", wish)))

    def test_only_behind_many_moments_quickly(self):
        for text, moments in (("ago 2 ago 2 ago 2 ago 2 nth 2 pulse a 1 2 2", 15), ("ago 2 ago 2 ago 2 ago 2 ago 2 rise a", 12),
                              ("ago 2 ago 2 ago 2 ago 2 ago 2 edges a 2 2 2", 13), ("ago 2 ago 2 ago 2 ago 2 ago 2 pulse b 0 2 2", 14),
                              ("ago 2 ago 2 ago 2 nth 2 pulse a 1 2 2", 13), ("ago 2 ago 2 ago 2 ago 2 ago 2 yes", 11),
                              ("both ago 2 ago 2 edges a 2 2 2 ago 2 fall b", 7), ("ago 2 held 2 ago 2 ago 2 held 2 high a", 9)):
            for names in ("ab", "ba"):
                wish = read_wish(text)
                catch = self.quickly(soonest, names, wish, seconds=2)
                self.assertEqual(moments_of(catch), moments, text)
                self.looked_at(names, catch, [wish])
        for text in ("nth 2 ago 2 ago 2 ago 2 ago 2 not yes", "both ago 2 ago 2 ago 2 edges a 2 2 2 not yes",
                     "held 2 ago 2 ago 2 ago 2 ago 2 pulse a 1 2 2"):
            self.assertIsNone(self.quickly(soonest, "ab", read_wish(text), seconds=2), text)


if __name__ == "__main__":
    unittest.main()
