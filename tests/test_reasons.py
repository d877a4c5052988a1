"""Point 24: reasons, why a wish is so or where it isn't first, and when it is caught."""

import random
import unittest

from tests.helper import BILLION, Refusals, catch_of, long_line, some_catch
from tests.slow import slow_holds, truths
from tests.wishing import OTHER_WORDS, PLAIN_WORDS, some_long_line, some_wish
from wirelooker.catches import moments_of
from wirelooker.meaning import first_when, when
from wirelooker.papers import paper_holds
from wirelooker.reasons import caught, reason
from wirelooker.spans import between
from wirelooker.wishtexts import read_wish


class TestReasons(Refusals, unittest.TestCase):
    def reason_right(self, catch, wish, begin, end, so):
        """Whether what is told of a stretch is right, its paper looked at; told is its word."""
        told = reason(catch, wish, begin, end)
        self.assertIs(type(told), tuple)
        if all(so[begin:end]):
            self.assertEqual((told[0], len(told)), ("so", 2))
            self.holds(catch, wish, begin, end, told[1], True)
        else:
            self.assertEqual((told[:2], len(told)), (("fails", so.index(False, begin)), 3))
            self.holds(catch, wish, told[1], told[1] + 1, told[2], False)
        return told[0]

    def caught_right(self, catch, wish, begin, so):
        told = caught(catch, wish, begin=begin)
        self.assertIs(type(told), tuple)
        if True in so[begin:]:
            moment = so.index(True, begin)
            self.assertEqual((told[:2], len(told)), (("caught", moment), 4))
            self.holds(catch, wish, moment, moment + 1, told[2], True)
            if moment == begin:
                self.assertIsNone(told[3])
            else:
                self.holds(catch, wish, begin, moment, told[3], False)
        else:
            self.assertEqual((told[0], len(told)), ("never", 2))
            self.holds(catch, wish, begin, len(so), told[1], False)
        return told[0]

    def holds(self, catch, wish, begin, end, paper, truth):
        self.assertIs(paper_holds(catch, wish, begin, end, paper, truth=truth), True, (catch, wish, begin, end, paper))
        self.assertTrue(slow_holds(catch, wish, begin, end, paper, truth), (catch, wish, begin, end, paper))

    def test_told_ones(self):
        catch = catch_of({"a": [0, 1, 1, 1, 0, 1]})
        line = ("line",)
        self.assertEqual(reason(catch, ("high", "a"), 1, 4), ("so", line))
        self.assertEqual(reason(catch, ("high", "a"), 1, 6), ("fails", 4, line))
        self.assertEqual(reason(catch, ("high", "a"), 0, 6), ("fails", 0, line))
        self.assertEqual(reason(catch, ("not", ("high", "a")), 0, 1), ("so", ("not", line)))
        self.assertEqual(reason(catch, ("both", ("high", "a"), ("yes",)), 1, 4), ("so", ("two", line, line)))
        self.assertEqual(caught(catch, ("high", "a")), ("caught", 1, line, line))
        self.assertEqual(caught(catch, ("high", "a"), begin=1), ("caught", 1, line, None))
        self.assertEqual(caught(catch, ("high", "a"), begin=4), ("caught", 5, line, line))
        self.assertEqual(caught(catch, ("fall", "a"), begin=5), ("never", line))
        read = ("read", ("clocked", "b", "rise", "a", "", 2, "high"), 3, 3)
        catch = catch_of({"a": [0, 1, 1, 1, 0, 1], "b": [0, 1, 0, 1, 0, 1]})
        self.assertEqual(reason(catch, read, 3, 4), ("so", line))
        self.assertEqual(reason(catch, read, 3, 5), ("fails", 4, line))
        self.assertEqual(caught(catch, read), ("caught", 3, line, line))

    def test_every_stretch_of_small_catches(self):
        chance = random.Random(24)
        seen = set()
        for number in range(500):
            many = chance.randint(1, 9)
            catch = some_catch(chance, "abc", many, chance.choice((1, 2, 4)))
            wish = some_wish(chance, "abc", chance.choice((1, 1, 2, 3)), 4)
            so = truths(catch, wish)
            for begin in range(many):
                for end in range(begin + 1, many + 1):
                    seen.add((wish[0], self.reason_right(catch, wish, begin, end, so)))
                seen.add((wish[0], self.caught_right(catch, wish, begin, so)))
            self.assertEqual(caught(catch, wish), caught(catch, wish, begin=0))
        words = {(word, told) for word in OTHER_WORDS + PLAIN_WORDS for told in ("so", "fails", "caught", "never")}
        rare = {("read", "so"), ("read", "caught")}
        self.assertEqual(seen | rare, words - {("yes", "fails"), ("yes", "never")})

    def test_stretches_of_others(self):
        chance = random.Random(240)
        for _ in range(400):
            many = chance.randint(10, 40)
            catch = some_catch(chance, "abc", many, chance.choice((1, 2, 4, 12)))
            wish = some_wish(chance, "abc", 3, 12)
            so = truths(catch, wish)
            for _ in range(3):
                begin = chance.randrange(many)
                self.reason_right(catch, wish, begin, chance.randint(begin + 1, many), so)
                self.caught_right(catch, wish, begin, so)
            changes = [t for t in range(many) if t == 0 or so[t] != so[t - 1]] + [many]
            for begin, end in zip(changes, changes[1:]):
                self.reason_right(catch, wish, begin, end, so)

    def test_to_the_end_and_not_beyond(self):
        catch = catch_of({"a": [1, 1, 1]})
        self.assertEqual(reason(catch, ("high", "a"), 0, 3), ("so", ("line",)))
        self.assertEqual(reason(catch, ("high", "a"), 2, 3), ("so", ("line",)))
        self.assertEqual(caught(catch, ("low", "a"), begin=2), ("never", ("line",)))

    def test_one_of_just_two(self):
        # Wherever a wish is so, and wherever it isn't, a paper shows it.
        chance = random.Random(241)
        for _ in range(60):
            catch = some_catch(chance, "abc", 25, 3)
            wish = some_wish(chance, "abc", 4)
            for t, truth in enumerate(truths(catch, wish)):
                told = reason(catch, wish, t, t + 1)
                self.assertEqual(told[0], "so" if truth else "fails")
                self.assertIs(paper_holds(catch, wish, t, t + 1, told[-1], truth=truth), True)
                self.assertIs(paper_holds(catch, wish, t, t + 1, told[-1], truth=not truth), False)

    def long_catch_right(self, catch, wish, begin, end):
        spans = when(catch, wish)
        told = self.quickly(reason, catch, wish, begin, end, seconds=3)
        inside = between(spans, begin, end)
        if inside == ((begin, end),):
            self.assertEqual(told[0], "so")
            self.assertIs(self.quickly(paper_holds, catch, wish, begin, end, told[1], seconds=3), True)
        else:
            fails = inside[0][1] if inside and inside[0][0] == begin else begin
            self.assertEqual(told[:2], ("fails", fails))
            self.assertIs(paper_holds(catch, wish, fails, fails + 1, told[2], truth=False), True)
        told = caught(catch, wish, begin=begin)
        first = first_when(catch, wish, begin=begin)
        last = moments_of(catch) if first is None else first
        self.assertEqual(told[:1] if first is None else told[:2], ("never",) if first is None else ("caught", first))
        if told[-1] is not None:
            self.assertIs(self.quickly(self.paper_fails, catch, wish, begin, last, told[-1], seconds=3), True)
        return told

    def paper_fails(self, catch, wish, begin, end, paper):
        return paper_holds(catch, wish, begin, end, paper, truth=False)

    def test_long_catches_quickly(self):
        chance = random.Random(242)
        for _ in range(250):
            catch = tuple((name, some_long_line(chance, 20)) for name in "abc")
            wish = some_wish(chance, "abc", 3, chance.choice((5, 10 ** 6, 10 ** 8, BILLION)))
            begin = chance.choice((0, chance.randrange(BILLION)))
            self.long_catch_right(catch, wish, begin, chance.choice((BILLION, chance.randint(begin + 1, BILLION))))

    def test_great_numbers_told(self):
        step = BILLION // 60
        end = 60 * step
        catch = (("a", long_line(60, step)),)
        for text in ("edges a 1000000000 0 58", "edges a 100000000 1 6", "nth 30 high a", "nth 31 high a",
                     "since yes nth 29 rise a", "since low a rise a", "held 16666666 high a", "held 16666667 low a",
                     "within 500000000 nth 3 high a", "ago 900000000 fall a", "within 900000000 ago 90000000 nth 2 low a",
                     "held 999999000 not edges a 1 2 3", "not since edges a 50000000 2 2 nth 10 rise a",
                     "either nth 9 high a within 20000000 nth 17 fall a", "nth 12 either rise a nth 20 low a"):
            wish = read_wish(text)
            for begin in (0, 1, step - 1, step, 29 * step + 5, end - 1):
                self.long_catch_right(catch, wish, begin, end)
            for first, last in when(catch, wish)[:3]:
                self.long_catch_right(catch, wish, first, last)

    def test_many_runs_and_deep_wishes_quickly(self):
        chance = random.Random(243)
        for _ in range(20):
            catch = tuple((name, some_long_line(chance, 130)) for name in "abc")
            self.long_catch_right(catch, some_wish(chance, "abc", 3, 10 ** 7), chance.randrange(BILLION), BILLION)
        catch = catch_of({"a": [0, 1, 1, 0]})
        wish = read_wish("not " * 150 + "ago 1 " * 20 + "either high a rise a")
        for begin in range(4):
            self.reason_right_deep(catch, wish, begin)

    def reason_right_deep(self, catch, wish, begin):
        told = reason(catch, wish, begin, begin + 1)
        self.assertEqual(told[:2], ("fails", begin))
        self.assertIs(paper_holds(catch, wish, begin, begin + 1, told[2], truth=False), True)
        self.assertIs(paper_holds(catch, wish, begin, begin + 1, told[2]), False)

    def test_asked_again(self):
        chance = random.Random(244)
        for _ in range(30):
            catch = some_catch(chance, "abc", 20, 3)
            wish = some_wish(chance, "abc", 3)
            one = reason(catch, wish, 0, 20), caught(catch, wish, begin=3)
            reason(catch, some_wish(chance, "abc", 3), 0, 5)
            self.assertEqual((reason(catch, wish, 0, 20), caught(catch, wish, begin=3)), one)


if __name__ == "__main__":
    unittest.main()
