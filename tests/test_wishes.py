"""Points 18 and 19: the parts of wishes, how deep they are, and whether a thing is a wish."""

import itertools
import random
import unittest

from tests.helper import BILLION, Refusals
from tests.wishing import some_wish
from wirelooker.errors import NoWish
from wirelooker.wishes import deep, inner_of, look_wish, parts_of

NAMES = ("a", "b", "high")
READ = ("twowire", "a", "b")
GOOD = [("yes",), ("high", "a"), ("low", "b"), ("rise", "high"), ("fall", "a"), ("pulse", "a", 1, 0, 5),
        ("edges", "b", 1, 0, 0), ("read", READ, 3, 3), ("not", ("yes",)), ("both", ("yes",), ("high", "a")),
        ("either", ("low", "a"), ("yes",)), ("ago", 0, ("yes",)), ("within", 0, ("yes",)), ("held", 1, ("yes",)),
        ("since", ("yes",), ("yes",)), ("nth", 1, ("yes",))]
# Where of each word lines, levels, other numbers, counts from 1 on, and tuples stand.
LINES = {"high": (1,), "low": (1,), "rise": (1,), "fall": (1,), "pulse": (1,), "edges": (1,)}
LEVELS = {"pulse": (2,)}
NUMBERS = {"pulse": (3, 4), "edges": (3, 4), "read": (2, 3), "ago": (1,), "within": (1,)}
COUNTS = {"edges": (2,), "held": (1,), "nth": (1,)}
TUPLES = {"read": (1,), "not": (1,), "both": (1, 2), "either": (1, 2), "since": (1, 2), "ago": (2,), "within": (2,),
          "held": (2,), "nth": (2,)}
RANGES = {"pulse": (3, 4), "edges": (3, 4), "read": (2, 3)}
NO_TEXTS = (None, True, False, 0, 1, -1, 10 ** 40, (), ("a",), (("a",),))
NO_NUMBERS = (None, True, False, "", "1", "a", (), (1,), ((1,),))
NO_TUPLES = (None, True, False, 0, 1, -5, "", "yes", "twowire a b")


def with_at(wish, *changes):
    parts = list(wish)
    for at, thing in changes:
        parts[at] = thing
    return tuple(parts)


def slow_parts(wish):
    """The parts by calls of itself."""
    return [wish] + [part for inner in wish[1:] if isinstance(inner, tuple) and wish[0] != "read"
                     for part in slow_parts(inner)]


def slow_depth(wish):
    inner = [part for part in wish[1:] if isinstance(part, tuple) and wish[0] != "read"]
    return 1 + max(map(slow_depth, inner)) if inner else 0


class TestParts(Refusals, unittest.TestCase):
    def test_in_their_order(self):
        wish = ("both", ("not", ("high", "a")), ("since", ("yes",), ("nth", 3, ("read", READ, 0, 1))))
        self.assertEqual(parts_of(wish), [
            wish, ("not", ("high", "a")), ("high", "a"), ("since", ("yes",), ("nth", 3, ("read", READ, 0, 1))), ("yes",),
            ("nth", 3, ("read", READ, 0, 1)), ("read", READ, 0, 1)])
        self.assertEqual(deep(wish), 3)

    def test_of_each_form(self):
        for wish in GOOD:
            self.assertEqual(parts_of(wish), slow_parts(wish))
            self.assertEqual(deep(wish), slow_depth(wish))
            self.assertEqual(deep(wish), 1 if wish[0] in TUPLES and wish[0] != "read" else 0)

    def test_by_chance(self):
        chance = random.Random(18)
        for _ in range(500):
            wish = some_wish(chance, "abc", chance.randint(0, 8))
            parts = parts_of(wish)
            self.assertEqual(parts, slow_parts(wish))
            self.assertEqual(deep(wish), slow_depth(wish))
            inner = inner_of(parts)
            for part, numbers in zip(parts, inner):
                told = [thing for thing in part[1:] if isinstance(thing, tuple) and part[0] != "read"]
                self.assertEqual([parts[number] for number in numbers], told)
            reached = sorted(number for numbers in inner for number in numbers)
            self.assertEqual(reached, list(range(1, len(parts))))

    def test_a_new_list(self):
        wish = ("not", ("yes",))
        parts = parts_of(wish)
        parts.append(7)
        parts[0] = None
        self.assertEqual(parts_of(wish), [("not", ("yes",)), ("yes",)])

    def test_very_deep_and_very_many(self):
        wish = ("yes",)
        for _ in range(3000):
            wish = ("not", wish)
        self.assertEqual(deep(wish), 3000)
        self.assertEqual(len(parts_of(wish)), 3001)
        self.assertIs(look_wish((), wish), True)
        wide = ("high", "a")
        for _ in range(11):
            wide = ("either", wide, wide)
        self.assertEqual(self.quickly(deep, wide), 11)
        self.assertEqual(len(self.quickly(parts_of, wide)), 4095)


class TestLook(Refusals, unittest.TestCase):
    def look_refused(self, word, at, wish, names=NAMES):
        for rows in (tuple(names), list(names)):
            self.refused(NoWish, {"word": word, "at": at}, look_wish, rows, wish)

    def wrongs(self):
        """Each form of wish with one thing otherwise, and the word that is due."""
        for wish in GOOD:
            for table, things, word in ((LINES, NO_TEXTS, "form"), (LEVELS, NO_NUMBERS, "form"),
                                        (NUMBERS, NO_NUMBERS, "form"), (COUNTS, NO_NUMBERS, "form"),
                                        (TUPLES, NO_TUPLES, "form"), (LINES, ("", "c", "A", "hig", "a "), "line"),
                                        (LEVELS, (-1, 2, 10 ** 40), "level"), (COUNTS, (0,), "number"),
                                        (NUMBERS, (-1, BILLION + 1, 10 ** 40, -10 ** 40), "number"),
                                        (COUNTS, (-1, BILLION + 1, 10 ** 40), "number")):
                for at, thing in itertools.product(table.get(wish[0], ()), things):
                    yield word, with_at(wish, (at, thing))
            for low, high in [RANGES[wish[0]]] if wish[0] in RANGES else []:
                for least, most in ((1, 0), (BILLION, BILLION - 1), (BILLION, 0)):
                    yield "order", with_at(wish, (low, least), (high, most))

    def test_good_ones(self):
        for wish in GOOD:
            self.assertIs(look_wish(NAMES, wish), True)
            self.assertIs(look_wish(list(NAMES), wish), True)
            for table in (NUMBERS, COUNTS):
                for at in table.get(wish[0], ()):
                    if (wish[0], at) not in (("pulse", 3), ("edges", 3), ("read", 2)):
                        self.assertIs(look_wish(NAMES, with_at(wish, (at, BILLION))), True)
            for low, high in [RANGES[wish[0]]] if wish[0] in RANGES else []:
                for number in (0, BILLION):
                    self.assertIs(look_wish(NAMES, with_at(wish, (low, number), (high, number))), True)
        self.assertIs(look_wish(NAMES, ("pulse", "a", 0, 0, 0)), True)
        self.assertIs(look_wish((), ("yes",)), True)
        self.assertIs(look_wish(names=["a"], wish=("high", "a")), True)

    def test_things_without_form(self):
        things = [None, True, False, 0, 1, 10 ** 40, -3, "", "yes", "high a", (), ("",), (None,), (True,), (0,), ((),),
                  (("yes",),), ("Yes",), ("yes ",), ("no",), ("and", ("yes",), ("yes",)), ("line",), ("twowire", "a", "b"),
                  ("high", "a", "b"), ("high",), ("a", "high"), (1, "a"), ((((((((((((),),),),),),),),),),),), ["yes"]]
        for thing in things:
            self.look_refused("form", 0, thing)

    def test_other_counts(self):
        for wish in GOOD:
            for many in range(1, len(wish)):
                self.look_refused("form", 0, wish[:many])
            for more in ("a", 1, None, ("yes",)):
                self.look_refused("form", 0, wish + (more,))

    def test_one_thing_otherwise(self):
        told = set()
        for word, wish in self.wrongs():
            self.look_refused(word, 0, wish)
            told.add((word, wish[0]))
        self.assertEqual(len(told), 15 + 6 + 1 + 7 + 3)

    def test_protocols(self):
        for protocol in ((), ("yes",), ("twowire",), ("twowire", "a", "c"), ("twowire", "a", "a"), ("packets", 1, 2, "sum"),
                         ("framed", "a", 1, 8, "none", 1), ("framed", "a", 4, 17, "none", 1), (((),),),
                         ("clocked", "a", "rise", "b", "high", 8, "up"), ("clocked", "a", "rise", "b", "c", 8, "low")):
            self.look_refused("protocol", 0, ("read", protocol, 0, 1))
        for protocol in (READ, ("framed", "high", 4, 8, "none", 1), ("clocked", "a", "rise", "b", "", 8, "low")):
            self.assertIs(look_wish(NAMES, ("read", protocol, 0, 1)), True)

    def test_several_at_once(self):
        for word, wish in (("form", ("pulse", "q", 7, -1, "")), ("line", ("pulse", "q", 7, -1, -2)),
                           ("level", ("pulse", "a", 7, -1, -2)), ("level", ("pulse", "a", -1, 9, 2)),
                           ("number", ("pulse", "a", 0, -1, -2)), ("number", ("pulse", "a", 0, BILLION + 1, 3)),
                           ("order", ("pulse", "a", 0, 4, 3)), ("form", ("edges", "q", 0, 2, None)),
                           ("line", ("edges", "q", 0, 2, 1)), ("number", ("edges", "a", 0, 2, 1)),
                           ("order", ("edges", "a", 1, 2, 1)), ("form", ("read", ("twowire", "q", "q"), 5, True)),
                           ("protocol", ("read", ("twowire", "q", "q"), 5, -1)), ("number", ("read", READ, 5, -1)),
                           ("order", ("read", READ, 5, 4))):
            self.look_refused(word, 0, wish)

    def test_part_by_part(self):
        good = ("both", ("high", "a"), ("not", ("low", "b")))
        for word, wrong in list(self.wrongs()) + [("form", ()), ("form", ("no",)), ("line", ("rise", "x"))]:
            # What is wrong within a wrong wish's own wishes is due behind it.
            self.look_refused(word, 1, ("not", wrong))
            self.look_refused(word, 5, ("either", good, wrong))
            self.look_refused(word, 1, ("since", wrong, ("high", "x")))
            self.look_refused(word, 4, ("both", ("ago", 3, ("yes",)), ("within", 2, wrong)))
            self.look_refused(word, 2, ("both", ("nth", 1, wrong), wrong))

    def test_a_wish_is_due_ahead_of_its_parts(self):
        self.look_refused("number", 0, ("ago", -1, ("high", "x")))
        self.look_refused("number", 0, ("held", 0, ()))
        self.look_refused("form", 0, ("nth", True, ("no",)))
        self.look_refused("line", 1, ("ago", 1, ("high", "x")))
        self.look_refused("number", 2, ("both", ("yes",), ("nth", 0, ("high", "x"))))
        self.look_refused("line", 3, ("both", ("yes",), ("nth", 1, ("high", "x"))))

    def test_many_parts(self):
        wide = ("high", "a")
        for _ in range(9):
            wide = ("either", wide, wide)
        self.assertIs(self.quickly(look_wish, NAMES, wide), True)
        self.look_refused("form", 1024, ("both", wide, ()))
        self.look_refused("line", 1026, ("both", wide, ("not", ("not", ("low", "c")))))

    def test_what_was_handed_in_stays(self):
        names = ["a", "b"]
        self.assertIs(look_wish(names, ("both", ("high", "a"), ("low", "b"))), True)
        self.refused(NoWish, {"word": "line", "at": 2}, look_wish, names, ("both", ("high", "a"), ("low", "c")))
        self.assertEqual(names, ["a", "b"])


if __name__ == "__main__":
    unittest.main()
