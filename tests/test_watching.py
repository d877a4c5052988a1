"""Point 25: Watchers, what they tell of pieces against the whole at once."""

import random
import unittest

from tests.helper import BILLION, Refusals, catch_of, levels_of, line_of, some_catch, spans_by
from tests.slow import truths
from tests.wishing import some_long_line, some_wish
from wirelooker.catches import cut
from wirelooker.errors import NoCatch, NoWish
from wirelooker.lines import turned
from wirelooker.meaning import first_when, when
from wirelooker.watching import Watcher
from wirelooker.wishtexts import read_wish


def cuts_of(chance, many, pieces):
    """Ends of so many pieces by chance, some of them perhaps empty."""
    return sorted(chance.randint(0, many) for _ in range(pieces - 1)) + [many]


class TestWatcher(Refusals, unittest.TestCase):
    def watched(self, catch, wish, ends):
        """A Watcher that was fed a catch by these ends, all that it tells looked at against the whole."""
        names = [name for name, _ in catch]
        watcher = Watcher(names, wish)
        so = truths(catch, wish)
        begin = 0
        for end in ends:
            spans = watcher.feed(cut(catch, begin, end))
            self.assertEqual(spans, spans_by(t for t in range(begin, end) if so[t]), (catch, wish, ends))
            self.assertEqual(watcher.when(), spans_by(t for t in range(end) if so[t]))
            self.assertEqual(watcher.first(), so.index(True) if True in so[:end] else None)
            self.assertEqual(len(watcher), end)
            begin = end
        return watcher

    def test_told_ones(self):
        watcher = Watcher(["a"], read_wish("held 3 high a"))
        self.assertEqual((watcher.when(), watcher.first(), len(watcher)), ((), None, 0))
        self.assertEqual(watcher.feed((("a", ((0, 2), (1, 2))),)), ())
        self.assertEqual((watcher.when(), watcher.first(), len(watcher)), ((), None, 4))
        self.assertEqual(watcher.feed((("a", ((1, 2), (0, 1))),)), ((4, 6),))
        self.assertEqual(watcher.feed((("a", ((1, 9),)),)), ((9, 16),))
        self.assertEqual(watcher.feed((("a", ()),)), ())
        self.assertEqual(watcher.feed((("a", ((1, 1),)),)), ((16, 17),))
        self.assertEqual((watcher.when(), watcher.first(), len(watcher)), (((4, 6), (9, 17)), 4, 17))

    def test_nothing_but_empty_pieces(self):
        watcher = Watcher(("a", "b"), ("yes",))
        for _ in range(3):
            self.assertEqual(watcher.feed((("a", ()), ("b", ()))), ())
            self.assertEqual((watcher.when(), watcher.first(), len(watcher)), ((), None, 0))
        self.assertEqual(watcher.feed((("a", ((0, 1),)), ("b", ((1, 1),)))), ((0, 1),))
        self.assertEqual((watcher.first(), len(watcher)), (0, 1))

    def test_one_piece_and_each_moment_alone(self):
        chance = random.Random(25)
        for _ in range(60):
            many = chance.randint(1, 40)
            catch = some_catch(chance, "abc", many, chance.choice((1, 2, 5)))
            wish = some_wish(chance, "abc", 3)
            self.watched(catch, wish, [many])
            self.watched(catch, wish, range(1, many + 1))
            self.watched(catch, wish, [0, 0, many, many])

    def test_cut_anywhere(self):
        chance = random.Random(250)
        for _ in range(400):
            many = chance.randint(0, 60)
            catch = some_catch(chance, "abc", many, chance.choice((1, 2, 5, 12)))
            self.watched(catch, some_wish(chance, "abc", chance.choice((0, 1, 2, 4)), 12),
                         cuts_of(chance, many, chance.choice((1, 2, 3, 7, 40))))

    def test_read_and_nth_across_the_cuts(self):
        chance = random.Random(251)
        reads = ("read 0 9 clocked a rise b c 3 low", "read 0 9 clocked a fall b - 2 high", "read 0 99 framed b 3 2 even 1",
                 "read 0 255 twowire a b", "nth 2 read 0 9 clocked a rise b - 2 high", "nth 3 either rise a fall b",
                 "since high c nth 2 high a", "pulse b 1 2 9", "edges a 7 2 3")
        for text in reads:
            for _ in range(12):
                catch = some_catch(chance, "abc", 60, chance.choice((1, 2, 3)))
                self.watched(catch, read_wish(text), cuts_of(chance, 60, chance.choice((2, 5, 40))))
        clock, data = [1, 1], [1, 0]
        for bit in (0, 0, 0, 0, 0, 1, 0, 1, 0):
            clock += [0, 1]
            data += [bit, bit]
        catch = catch_of({"a": clock, "b": data})
        for at in range(21):
            watcher = self.watched(catch, read_wish("read 5 5 twowire a b"), [at, 20])
            self.assertEqual(watcher.when(), ((19, 20),))

    def test_copies_go_on_by_themselves(self):
        chance = random.Random(252)
        for _ in range(60):
            one = some_catch(chance, "abc", 30, 3)
            wish = some_wish(chance, "abc", 3)
            watcher = self.watched(cut(one, 0, 13), wish, [5, 13])
            copy = watcher.copied()
            self.assertIs(type(copy), Watcher)
            told = (watcher.when(), watcher.first(), len(watcher))
            self.assertEqual((copy.when(), copy.first(), len(copy)), told)
            so = truths(one, wish)
            self.assertEqual(copy.feed(cut(one, 13, 30)), spans_by(t for t in range(13, 30) if so[t]))
            self.assertEqual((copy.when(), copy.first(), len(copy)), (when(one, wish), first_when(one, wish), 30))
            self.assertEqual((watcher.when(), watcher.first(), len(watcher)), told)
            other = tuple((name, turned(line)) for name, line in cut(one, 0, 13))
            both = tuple((name, line_of(levels_of(line)[:13] + levels_of(more)))
                         for (name, line), (_, more) in zip(one, other))
            watcher.feed(other)
            self.assertEqual((watcher.when(), len(watcher)), (when(both, wish), 26))
            self.assertEqual((copy.when(), copy.first(), len(copy)), (when(one, wish), first_when(one, wish), 30))

    def test_two_watchers_dont_touch_one_another(self):
        names = ["a"]
        one, other = Watcher(names, ("high", "a")), Watcher(names, ("high", "a"))
        one.feed((("a", ((1, 5),)),))
        self.assertEqual((other.when(), other.first(), len(other)), ((), None, 0))
        other.feed((("a", ((0, 2), (1, 1))),))
        self.assertEqual((one.when(), other.when()), (((0, 5),), ((2, 3),)))

    def test_what_was_handed_in_stays(self):
        names = ["a", "b"]
        watcher = Watcher(names, ("high", "b"))
        names[1] = "c"
        names.append("d")
        piece = (("a", ((0, 2),)), ("b", ((1, 2),)))
        self.assertEqual(watcher.feed(piece), ((0, 2),))
        self.assertEqual(names, ["a", "c", "d"])
        self.assertEqual(piece, (("a", ((0, 2),)), ("b", ((1, 2),))))

    def test_pieces_of_other_names(self):
        run = ((1, 3),)
        for names in (("a",), ("a", "b"), ("a", "b", "c")):
            watcher = Watcher(names, ("high", "a"))
            watcher.feed(tuple((name, run) for name in names))
            others = {("x",) + names[1:]: 0, names + ("x",): len(names), names[:-1] + ("x",): len(names) - 1}
            if len(names) > 1:
                others |= {names[:-1]: len(names) - 1, names[::-1]: 0, names[1:]: 0}
            for other, at in others.items():
                for line in (run, ()):
                    piece = tuple((name, line) for name in other)
                    self.refused(NoCatch, {"word": "name", "at": at}, watcher.feed, piece)
                    self.assertEqual((watcher.when(), watcher.first(), len(watcher)), (((0, 3),), 0, 3))
            self.assertEqual(watcher.feed(tuple((name, run) for name in names)), ((3, 6),))

    def test_wishes_refused_at_the_making(self):
        for word, at, wish in (("form", 0, ()), ("form", 0, None), ("form", 1, ("not", ("no",))), ("line", 0, ("high", "x")),
                               ("line", 2, ("both", ("yes",), ("low", "c"))), ("protocol", 0, ("read", ("twowire",), 0, 1)),
                               ("level", 0, ("pulse", "a", 2, 0, 1)), ("number", 0, ("nth", 0, ("yes",))),
                               ("order", 0, ("edges", "b", 2, 3, 1))):
            self.refused(NoWish, {"word": word, "at": at}, Watcher, ["a", "b"], wish)
            self.refused(NoWish, {"word": word, "at": at}, Watcher, ("a", "b"), wish)

    def test_asked_again(self):
        watcher = Watcher(("a", "b"), ("high", "a"))
        watcher.feed(some_catch(random.Random(253), "ab", 20, 3))
        told = (watcher.when(), watcher.first(), len(watcher))
        self.assertEqual((watcher.when(), watcher.first(), len(watcher)), told)
        self.assertIs(type(watcher.when()), tuple)

    def test_long_pieces_quickly(self):
        chance = random.Random(254)
        for _ in range(3):
            catch = tuple((name, some_long_line(chance, 130)) for name in "abc")
            wish = some_wish(chance, "abc", 5, BILLION)
            self.quickly(self.fed_whole, chance, catch, wish)

    def fed_whole(self, chance, catch, wish):
        watcher = Watcher(["a", "b", "c"], wish)
        begin = 0
        for end in cuts_of(chance, BILLION, 40):
            watcher.feed(cut(catch, begin, end))
            begin = end
        self.assertEqual(watcher.when(), when(catch, wish))
        self.assertEqual(len(watcher), BILLION)

    def test_more_moments_than_of_one_catch(self):
        watcher = Watcher(["a"], ("fall", "a"))
        for at in range(9):
            watcher.feed((("a", ((at % 2, BILLION),)),))
        self.assertEqual(len(watcher), 9 * BILLION)
        self.assertEqual(watcher.when(), tuple((at * BILLION, at * BILLION + 1) for at in (2, 4, 6, 8)))


if __name__ == "__main__":
    unittest.main()
