"""Points 38 to 40: a Looker over many calls, against a slow one that begins anew for each thing it tells."""

import random
import unittest

from tests.helper import BILLION, Refusals, some_catch
from tests.slow import truths
from tests.stacking import slow_reading, some_stack, some_stacked_catch
from tests.wishing import some_wish
from wirelooker.catches import cut, look_catch, moments_of, put_behind
from wirelooker.errors import Broken, Full, NoCatch, NoStack, NoWatch, NoWish, WireError
from wirelooker.looker import PIECES, Looker
from wirelooker.meaning import first_when, when
from wirelooker.stacks import look_stack, read_stack, settled
from wirelooker.wishes import look_wish

NAMES = ("c", "d", "g")
EMPTY = tuple((name, ()) for name in NAMES)
HIGH = ("high", "d")
WIDE = ("within", 2, ("rise", "c"))
STACK = (("framed", "d", 2, 2, "none", 1),)
CALLS = (("twowire", "c", "d"), ("calls",))


def piece(*levels):
    """A piece of the three lines that are high at the same moments."""
    line = []
    for level in levels:
        if line and line[-1][0] == level:
            line[-1] = (level, line[-1][1] + 1)
        else:
            line.append((level, 1))
    return tuple((name, tuple(line)) for name in NAMES)


def all_told(looker):
    """All that a Looker tells but its log."""
    kept = looker.kept()
    told = {number: looker.read(number) if entry[0] == "stack" else (looker.when(number), looker.first(number))
            for number, entry in kept.items()}
    return (looker.catch(), kept, list(kept), told, len(looker), repr(looker), looker.is_open())


class SlowLooker:
    """Keeps the deeds that stand, and a log."""

    def __init__(self, names, most):
        self.names, self.most, self.deeds, self.rows = names, most, [], []

    def now(self):
        """The whole catch, how many pieces, what is kept, and the next number."""
        whole, pieces, kept, number = tuple((name, ()) for name in self.names), 0, {}, 0
        for word, thing in self.deeds:
            if word == "feed":
                whole, pieces = put_behind(whole, thing), pieces + 1
            elif word == "drop":
                del kept[thing]
            else:
                kept[number] = (word, thing)
                number += 1
        return whole, pieces, kept, number

    def do(self, word, thing):
        whole, pieces, kept, number = self.now()
        row = (word, number)
        if word == "feed":
            look_catch(thing)
            put_behind(whole, thing)
            if pieces == self.most:
                raise Full(self.most)
            row = ("feed", moments_of(thing))
        elif word == "watch":
            look_wish(self.names, thing)
        elif word == "stack":
            look_stack(self.names, thing)
        elif type(thing) is not int or thing not in kept:
            raise NoWatch(thing)
        else:
            row = ("drop", thing)
        self.deeds.append((word, thing))
        self.rows.append(row)
        return number if word in ("watch", "stack") else None

    def back(self):
        if self.deeds:
            self.deeds.pop()
            self.rows.append(("back",))
            return True
        return False

    def several(self, deeds, whole):
        many, begun = len(self.deeds), len(self.rows)
        told = []
        try:
            for deed in deeds:
                if type(deed) is not tuple or len(deed) != 2 or deed[0] not in ("feed", "watch", "stack", "drop"):
                    raise WireError
                told.append(self.do(*deed))
        except (WireError, NoWatch):
            if whole:
                del self.deeds[many:]
                del self.rows[begun:]
        self.rows[begun:] = [("begin", len(deeds)), *self.rows[begun:], ("end", len(self.deeds) - many)]
        if len(told) < len(deeds):
            raise Broken(len(told))
        return told

    def told(self):
        whole, pieces, kept, _ = self.now()
        told = {}
        for number, (word, thing) in kept.items():
            if word == "stack":
                told[number] = slow_reading(whole, thing, settle=True)
            else:
                so = [at for at, is_so in enumerate(truths(whole, thing)) if is_so]
                told[number] = (when(whole, thing), so[0] if so else None)
        return (whole, kept, sorted(kept), told, pieces, f"Looker({len(whole)}, {moments_of(whole)})", True)


class TestNames(Refusals, unittest.TestCase):
    def test_good_ones(self):
        for names in (["a"], ("c", "d"), list("abcde"), ("sixsix",)):
            looker = Looker(names)
            self.assertEqual(looker.catch(), tuple((name, ()) for name in names))
            self.assertEqual(all_told(looker)[1:], ({}, [], {}, 0, f"Looker({len(names)}, 0)", True))
            self.assertEqual(looker.log(), [])
        self.assertEqual(PIECES, 40)
        self.assertEqual(Looker(names=["a"], most=3), Looker(("a",)))

    def test_wrong_ones(self):
        for names, word, at in (((), "form", 0), ([], "form", 0), (list("abcdef"), "form", 0), (["a", "b", "a"], "name", 2),
                                (["A"], "name", 0), (["a", ""], "name", 1), (["a", "b", "sevenof"], "name", 2),
                                (["a", "a", "B"], "name", 1), (["a", "b c"], "name", 1), (list("aBcdef"), "form", 0)):
            self.refused(NoCatch, {"word": word, "at": at}, Looker, names)
            self.refused(NoCatch, {"word": word, "at": at}, Looker, tuple(names), most=0)


class TestDeeds(Refusals, unittest.TestCase):
    def stands(self, looker, kind, fields, function, *things):
        """Looks that a deed is refused, and that nothing comes of it."""
        before, rows = all_told(looker), looker.log()
        self.refused(kind, fields, function, *things)
        self.assertEqual((all_told(looker), looker.log()), (before, rows))

    def test_feed(self):
        looker = Looker(NAMES)
        self.assertIsNone(looker.feed(piece(0, 1)))
        self.assertIsNone(looker.feed(piece=piece(1, 1, 0)))
        self.assertIsNone(looker.feed(EMPTY))
        self.assertEqual(looker.catch(), piece(0, 1, 1, 1, 0))
        self.assertEqual((len(looker), repr(looker)), (3, "Looker(3, 5)"))
        self.assertEqual(looker.log(), [("feed", 2), ("feed", 3), ("feed", 0)])

    def test_feed_refused(self):
        looker = Looker(NAMES, most=2)
        looker.watch(HIGH)

        def all_wrong():
            for thing, word, at in (
                    (None, "form", 0), ((), "form", 0), ("c", "form", 0), (7, "form", 0), ((((),),), "form", 0),
                    ((("C", ()),), "name", 0), ((("c", ()), ("c", 7)), "name", 1), ((("x", ((2, 1),)),), "line", 0),
                    ((("c", True), ("d", ())), "line", 0), ((("x", ()), ("y", ((0, 1),))), "long", 1),
                    ((("d", ()),), "name", 0), (EMPTY[:2], "name", 2), (EMPTY + (("x", ()),), "name", 3),
                    ((EMPTY[0], EMPTY[2], EMPTY[1]), "name", 1), (EMPTY[:2] + (("x", ((0, 1),)),), "long", 2)):
                self.stands(looker, NoCatch, {"word": word, "at": at}, looker.feed, thing)
        all_wrong()
        looker.feed(piece(1, 0))
        all_wrong()
        looker.feed(EMPTY)
        # Full comes behind all that is wrong with the piece.
        all_wrong()
        self.stands(looker, Full, {"most": 2}, looker.feed, piece(1))
        self.stands(looker, Full, {"most": 2}, looker.feed, EMPTY)
        looker.back()
        looker.feed(piece(1))
        self.assertEqual(len(looker), 2)

    def test_most(self):
        looker = Looker(["a"])
        for _ in range(40):
            looker.feed((("a", ((1, 1),)),))
        self.stands(looker, Full, {"most": 40}, looker.feed, (("a", ()),))
        self.stands(Looker(["a"], most=0), Full, {"most": 0}, Looker(["a"], most=0).feed, (("a", ()),))
        looker = Looker(["a"], most=BILLION)
        for _ in range(60):
            looker.feed((("a", ()),))
        self.assertEqual(len(looker), 60)

    def test_watch_and_stack(self):
        looker = Looker(NAMES)
        self.assertEqual([looker.watch(HIGH), looker.stack(STACK), looker.watch(wish=WIDE), looker.stack(layers=CALLS)],
                         [0, 1, 2, 3])
        self.assertEqual(looker.watch(HIGH), 4)
        self.assertEqual(looker.kept(), {0: ("watch", HIGH), 1: ("stack", STACK), 2: ("watch", WIDE), 3: ("stack", CALLS),
                                         4: ("watch", HIGH)})
        self.assertEqual(looker.log(), [("watch", 0), ("stack", 1), ("watch", 2), ("stack", 3), ("watch", 4)])
        self.assertEqual((looker.when(0), looker.first(0), looker.read(1)), ((), None, ((),)))
        looker.feed(piece(0, 1, 1, 0))
        self.assertEqual((looker.when(0), looker.first(0), looker.when(2)), (((1, 3),), 1, ((1, 4),)))
        self.assertEqual((looker.when(number=2), looker.first(number=2), looker.read(number=1)), (((1, 4),), 1, ((),)))

    def test_watch_and_stack_refused(self):
        looker = Looker(("c", "d"))
        looker.feed((("c", ((1, 3),)), ("d", ((0, 3),))))
        for thing, word, at in ((None, "form", 0), (("high",), "form", 0), (("high", "g"), "line", 0),
                                (("both", ("yes",), ("rise", "x")), "line", 2), (("held", 0, ("yes",)), "number", 0),
                                (("not", ("read", ("twowire", "c", "c"), 0, 1)), "protocol", 1)):
            self.stands(looker, NoWish, {"word": word, "at": at}, looker.watch, thing)
        for thing, layer, word in ((None, 0, "form"), ((), 0, "form"), (CALLS[:1] + (7,), 1, "form"), ((("twowire", "c", "g"),), 0, "line"),
                                   ((CALLS[0], ("packets", 1, 256, "sum")), 1, "most"), (CALLS + (("talks",),), 2, "form")):
            self.stands(looker, NoStack, {"layer": layer, "word": word}, looker.stack, thing)
        self.assertEqual(looker.watch(HIGH), 0)

    def test_drop(self):
        looker = Looker(NAMES)
        looker.watch(HIGH), looker.stack(STACK), looker.watch(WIDE)
        for number in (3, -1, BILLION, -BILLION, 10 ** 30):
            self.stands(looker, NoWatch, {"number": number}, looker.drop, number)
        self.assertIsNone(looker.drop(1))
        self.stands(looker, NoWatch, {"number": 1}, looker.drop, 1)
        self.assertEqual(list(looker.kept()), [0, 2])
        self.assertIsNone(looker.drop(number=2))
        # None comes twice.
        self.assertEqual((looker.stack(STACK), looker.watch(HIGH)), (3, 4))
        self.assertEqual(list(looker.kept()), [0, 3, 4])
        self.assertEqual(looker.log()[3:], [("drop", 1), ("drop", 2), ("stack", 3), ("watch", 4)])
        for number in (0, 3, 4):
            looker.drop(number)
        self.assertEqual((looker.kept(), looker.watch(WIDE)), ({}, 5))

    def test_numbers_of_the_other_sort(self):
        looker = Looker(NAMES)
        looker.watch(HIGH), looker.stack(STACK)
        looker.feed(piece(1, 0))
        for number in (1, 2, -1, BILLION):
            self.stands(looker, NoWatch, {"number": number}, looker.when, number)
            self.stands(looker, NoWatch, {"number": number}, looker.first, number)
        for number in (0, 2, -1, -BILLION):
            self.stands(looker, NoWatch, {"number": number}, looker.read, number)
        looker.drop(0)
        looker.drop(1)
        self.stands(looker, NoWatch, {"number": 0}, looker.first, 0)
        self.stands(looker, NoWatch, {"number": 1}, looker.read, 1)
        with self.assertRaises(LookupError):
            looker.when(0)

    def test_what_is_told_is_the_askers_own(self):
        looker = Looker(NAMES)
        deeds = [("feed", piece(1, 0)), ("watch", HIGH)]
        told = looker.several(deeds)
        kept, log = looker.kept(), looker.log()
        told.append(7), deeds.clear(), kept.clear(), log.clear()
        self.assertEqual(looker.kept(), {0: ("watch", HIGH)})
        self.assertEqual(looker.log(), [("begin", 2), ("feed", 2), ("watch", 0), ("end", 2)])
        kept = looker.kept()
        kept[0] = kept[9] = "mine"
        self.assertEqual(looker.kept(), {0: ("watch", HIGH)})
        names = ["c", "d"]
        looker = Looker(names)
        names.append("g")
        self.assertEqual(looker.catch(), EMPTY[:2])


class TestEqual(unittest.TestCase):
    def test_in_other_pieces(self):
        one, other = Looker(NAMES), Looker(list(NAMES), most=9)
        for levels in ((0, 1), (1,), ()):
            one.feed(piece(*levels))
        other.feed(piece(0, 1, 1))
        self.assertTrue(one == other)
        self.assertFalse(one != other)
        one.watch(HIGH)
        self.assertFalse(one == other)
        other.stack(STACK), other.drop(0), other.watch(HIGH)
        # The same wish, but by another number.
        self.assertFalse(one == other)
        one.drop(0), one.watch(HIGH)
        self.assertTrue(one == other)
        one.stack(STACK), other.watch(("yes",))
        self.assertFalse(one == other)
        one.back(), other.back()
        self.assertTrue(one == other)

    def test_the_next_number_does_not_count(self):
        one, other = Looker("ab"), Looker("ab")
        one.watch(("high", "a")), one.drop(0)
        self.assertTrue(one == other)
        self.assertTrue(Looker("ab") != Looker("ba"))
        self.assertTrue(Looker("ab") != Looker("abc"))
        one.feed((("a", ((1, 1),)), ("b", ((1, 1),))))
        self.assertTrue(one != other)

    def test_things_that_are_none(self):
        looker = Looker(["a"])

        class Same:
            def __eq__(self, other):
                return True

        for thing in (None, 0, (), "Looker(1, 0)", looker.catch(), Looker, Same()):
            self.assertIs(looker == thing, False)
            self.assertIs(looker != thing, True)
        self.assertIs(looker == looker, True)


class TestBack(unittest.TestCase):
    def test_each_deed(self):
        looker = Looker(NAMES, most=2)
        self.assertIs(looker.back(), False)
        before = []
        for deed in (lambda: looker.watch(HIGH), lambda: looker.feed(piece(0, 1)), lambda: looker.stack(STACK),
                     lambda: looker.drop(0), lambda: looker.feed(EMPTY), lambda: looker.watch(WIDE), lambda: looker.drop(2),
                     lambda: looker.drop(1)):
            before.append(all_told(looker))
            deed()
        for told in reversed(before):
            self.assertIs(looker.back(), True)
            self.assertEqual(all_told(looker), told)
        self.assertIs(looker.back(), False)
        self.assertEqual(looker.log()[8:], [("back",)] * 8)
        # The next number is as it was, and comes again.
        self.assertEqual(looker.watch(WIDE), 0)

    def test_numbers_come_again(self):
        looker = Looker(NAMES)
        looker.watch(HIGH)
        self.assertEqual(looker.stack(STACK), 1)
        looker.back()
        self.assertEqual(looker.watch(WIDE), 1)
        looker.drop(0)
        looker.back()
        self.assertEqual(list(looker.kept()), [0, 1])
        self.assertEqual(looker.watch(("yes",)), 2)
        self.assertEqual(list(looker.kept()), [0, 1, 2])

    def test_what_was_refused_is_no_deed(self):
        looker = Looker(NAMES)
        looker.watch(HIGH)
        for refused in (lambda: looker.drop(5), lambda: looker.feed(None), lambda: looker.watch(("no",))):
            with self.assertRaises((WireError, NoWatch)):
                refused()
        self.assertIs(looker.back(), True)
        self.assertEqual((looker.kept(), looker.back()), ({}, False))
        self.assertEqual(looker.log(), [("watch", 0), ("back",)])


class TestSeveral(Refusals, unittest.TestCase):
    DEEDS = (("watch", HIGH), ("feed", piece(0, 1)), ("stack", STACK), ("drop", 0), ("feed", EMPTY), ("watch", WIDE))

    def test_all_done(self):
        for deeds in (self.DEEDS, list(self.DEEDS)):
            looker, alone = Looker(NAMES), Looker(NAMES)
            self.assertEqual(looker.several(deeds), [0, None, 1, None, None, 2])
            alone.watch(HIGH), alone.feed(piece(0, 1)), alone.stack(STACK), alone.drop(0), alone.feed(EMPTY), alone.watch(WIDE)
            self.assertEqual(all_told(looker), all_told(alone))
            self.assertEqual(looker.log(), [("begin", 6), *alone.log(), ("end", 6)])
            # For back each is one by itself.
            for many in range(5, -1, -1):
                self.assertIs(looker.back(), True)
                self.assertIs(alone.back(), True)
                self.assertEqual(all_told(looker), all_told(alone))
            self.assertIs(looker.back(), False)

    def test_none_at_all(self):
        looker = Looker(NAMES)
        self.assertEqual((looker.several([]), looker.several(deeds=(), whole=False)), ([], []))
        self.assertEqual(looker.log(), [("begin", 0), ("end", 0)] * 2)
        self.assertIs(looker.back(), False)

    def test_refused_at_each_place(self):
        wrong = (("feed", None), ("feed", EMPTY[:1]), ("watch", ("high", "x")), ("stack", ()), ("drop", 7), ("drop", -1),
                 ("drop", True), ("drop", False), ("drop", "0"), ("drop", None), ("drop", (0,)), ("drop",), ("feed",), ("back",),
                 ("back", 0), ("feed", EMPTY, EMPTY), ("watch", HIGH, True), (), None, "drop", 0, True, (("drop", 0),),
                 ("several", ()), ("Feed", EMPTY), ("", EMPTY), ((), EMPTY), (None, 0), ("drop", 10 ** 30))
        for thing in wrong:
            for at in range(len(self.DEEDS) + 1):
                deeds = [*self.DEEDS[:at], thing, *self.DEEDS[at:]]
                for sort in (list, tuple):
                    self.broken(sort(deeds), at)

    def broken(self, deeds, at):
        """Several deeds, of which one is refused, as a whole, and where those ahead stand."""
        for named in ({}, {"whole": True}):
            looker = self.some_looker()
            before, rows = all_told(looker), looker.log()
            self.refused(Broken, {"at": at}, looker.several, deeds, **named)
            self.assertEqual(all_told(looker), before)
            self.assertEqual(looker.log(), [*rows, ("begin", len(deeds)), ("end", 0)])
            # The next number is as it was.
            self.assertEqual(looker.watch(HIGH), 1)
            self.assertEqual((looker.back(), looker.back(), looker.back()), (True, True, True))
            self.assertEqual(looker.kept(), {})
        looker, other = self.some_looker(), self.some_looker()
        self.refused(Broken, {"at": at}, looker.several, deeds, whole=False)
        other.several(deeds[:at])
        self.assertEqual(all_told(looker), all_told(other))
        self.assertEqual(looker.log(), [*rows, ("begin", len(deeds)), *other.log()[len(rows) + 1:-1], ("end", at)])
        for _ in range(at):
            self.assertIs(looker.back(), True)
        self.assertEqual(all_told(looker), before)

    @staticmethod
    def some_looker():
        """One that keeps a wish by the number 0, which is not what is dropped first."""
        looker = Looker(NAMES)
        looker.feed(piece(1, 0))
        looker.watch(("yes",))
        return looker

    def test_drops_of_what_is_not_kept_yet(self):
        looker = Looker(NAMES)
        self.refused(Broken, {"at": 0}, looker.several, [("drop", 0), ("watch", HIGH)])
        self.refused(Broken, {"at": 2}, looker.several, [("watch", HIGH), ("drop", 0), ("drop", 0)])
        self.assertEqual(looker.several([("watch", HIGH), ("drop", 0), ("watch", WIDE)]), [0, None, 1])

    def test_full_in_the_middle(self):
        looker = Looker(NAMES, most=2)
        looker.feed(EMPTY)
        deeds = [("feed", EMPTY), ("watch", HIGH), ("feed", EMPTY), ("watch", WIDE)]
        self.refused(Broken, {"at": 2}, looker.several, deeds)
        self.assertEqual((len(looker), looker.kept()), (1, {}))
        self.refused(Broken, {"at": 2}, looker.several, deeds, whole=False)
        self.assertEqual((len(looker), looker.kept()), (2, {0: ("watch", HIGH)}))
        self.assertEqual(looker.log(), [("feed", 0), ("begin", 4), ("end", 0), ("begin", 4), ("feed", 0), ("watch", 0), ("end", 2)])


class TestByChance(Refusals, unittest.TestCase):
    def some_deed(self, chance, pieces):
        word = chance.choice(("feed", "feed", "watch", "stack", "drop", "wrong"))
        return {
            "feed": lambda: ("feed", chance.choice(pieces)),
            "watch": lambda: ("watch", some_wish(chance, NAMES, 2, 4)),
            "stack": lambda: ("stack", some_stack(chance)),
            "drop": lambda: ("drop", chance.randrange(-1, 5)),
            "wrong": lambda: chance.choice((("feed", EMPTY[1:]), ("watch", ("high", "x")), ("stack", (STACK[0], None)), ("drop", 99))),
        }[word]()

    def same(self, one, other):
        """Looks that two deeds tell the same, or are refused by the same error."""
        outcomes = []
        for deed in (one, other):
            try:
                outcomes.append(("told", deed()))
            except (WireError, NoWatch) as error:
                outcomes.append((type(error), vars(error)))
        self.assertEqual(*outcomes)

    def test_against_a_slow_one(self):
        chance = random.Random(38)
        for _ in range(60):
            most = chance.choice((3, 40))
            looker, slow = Looker(NAMES, most=most), SlowLooker(NAMES, most)
            pieces = [EMPTY, *[some_catch(chance, NAMES, chance.randrange(12), 3) for _ in range(4)]]
            for _ in range(14):
                way = chance.choice(("alone", "alone", "back", "several"))
                if way == "alone":
                    word, thing = self.some_deed(chance, pieces)
                    self.same(lambda: getattr(looker, word)(thing), lambda: slow.do(word, thing))
                elif way == "back":
                    self.same(looker.back, slow.back)
                else:
                    deeds = [self.some_deed(chance, pieces) for _ in range(chance.randrange(5))]
                    whole = chance.random() < 0.5
                    self.same(lambda: looker.several(deeds, whole=whole), lambda: slow.several(deeds, whole))
                self.assertEqual(all_told(looker), slow.told())
                self.assertEqual(looker.log(), slow.rows)
                self.assertIs(looker.is_open(), True)

    def test_pieces_against_the_whole(self):
        chance = random.Random(39)
        for _ in range(40):
            stack = some_stack(chance)
            catch = some_stacked_catch(chance, stack)
            names = [name for name, _ in catch]
            wish = chance.choice((("within", 3, ("rise", "d")), ("nth", 2, HIGH), ("read", stack[0], 1, 200), ("pulse", "d", 1, 2, 9)))
            looker, at_once = Looker(names), Looker(names)
            for other in (looker, at_once):
                other.several([("watch", wish), ("stack", stack)])
            ends = sorted(chance.randint(0, moments_of(catch)) for _ in range(5)) + [moments_of(catch)]
            begin, ahead = 0, ((),) * len(stack)
            for end in ends:
                looker.feed(cut(catch, begin, end))
                begin = end
                told = looker.read(1)
                self.assertEqual(told, settled(cut(catch, 0, end), stack))
                self.assertEqual([other[:len(one)] for one, other in zip(ahead, told)], list(ahead))
                self.assertEqual(looker.when(0), when(cut(catch, 0, end), wish))
                self.assertEqual(looker.first(0), first_when(cut(catch, 0, end), wish))
                ahead = told
            at_once.feed(catch)
            self.assertTrue(looker == at_once)
            self.assertEqual(repr(looker), repr(at_once))
            self.assertEqual(looker.read(1), at_once.read(1))
            self.assertEqual([items[:len(one)] for items, one in zip(read_stack(catch, stack), ahead)][0], ahead[0])


if __name__ == "__main__":
    unittest.main()
