"""Points 18 and 21: the moments at which wishes are so, against their own words moment by moment."""

import random
import unittest

from tests.helper import BILLION, Refusals, catch_of, line_of, some_catch, spans_by
from tests.slow import truths
from tests.wishing import OTHER_WORDS, PLAIN_WORDS, some_long_line, some_plain, some_wish
from wirelooker.catches import cut
from wirelooker.errors import NoMoment
from wirelooker.meaning import first_when, is_so, when
from wirelooker.wishtexts import read_wish


def row(text):
    return [int(sign) for sign in text]


class TestWhen(Refusals, unittest.TestCase):
    def told(self, text, wish, want, other=""):
        """Where a wish is so, by signs: `#` where it is, on lines a and perhaps b."""
        catch = catch_of({"a": row(text), "b": row(other or text)})
        spans = when(catch, read_wish(wish))
        self.assertEqual(spans, spans_by(at for at, sign in enumerate(want) if sign == "#"), wish)

    def test_levels_and_changes(self):
        self.told("0110010", "yes", "#######")
        self.told("0110010", "high a", ".##..#.")
        self.told("0110010", "low a", "#..##.#")
        self.told("0110010", "rise a", ".#...#.")
        self.told("0110010", "fall a", "...#..#")
        self.told("1101", "rise a", "...#")
        self.told("0010", "fall a", "...#")
        self.told("1101", "high b", ".#..", "0100")

    def test_pulse(self):
        # The first run counts never, the last one not, for nothing is behind it.
        self.told("1100111010", "pulse a 1 1 9", ".......#.#")
        self.told("1100111010", "pulse a 0 1 9", "....#...#.")
        self.told("1100111010", "pulse a 1 3 3", ".......#..")
        self.told("1100111010", "pulse a 1 1 1", ".........#")
        self.told("1100111010", "pulse a 1 0 0", "..........")
        self.told("1100111010", "pulse a 0 2 2", "....#.....")
        self.told("1100111010", "pulse a 1 2 3", ".......#..")

    def test_edges(self):
        self.told("0110010111", "edges a 1 1 1", ".#.#.###..")
        self.told("0110010111", "edges a 1 0 0", "#.#.#...##")
        self.told("0110010111", "edges a 3 2 2", "...#.##.#.")
        self.told("0110010111", "edges a 3 3 9", ".......#..")
        self.told("0110010111", "edges a 99 0 1", "###.......")
        self.told("0110010111", "edges a 1000000000 5 5", ".......###")

    def test_read(self):
        self.told("0101010101", "read 0 3 clocked a rise b - 2 high", "...#...#..", "0111000110")
        self.told("0101010101", "read 3 3 clocked a rise b - 2 high", "...#......", "0111000110")
        self.told("0101010101", "read 2 2 clocked a rise b - 2 high", "..........", "0111000110")
        self.told("1001111", "read 0 1 framed a 2 1 none 1", "......#")
        self.told("1001111", "read 0 0 framed a 2 1 none 1", ".......")

    def test_mutes_are_no_words(self):
        for answered in (0, 1):
            clock, data = [1, 1], [1, 0]
            for bit in [0, 0, 0, 0, 0, 0, 1, 1, answered]:
                clock += [0, 1]
                data += [bit, bit]
            catch = catch_of({"a": clock, "b": data})
            self.assertEqual(when(catch, read_wish("read 3 3 twowire a b")), () if answered else ((19, 20),))

    def test_joined_ones(self):
        self.told("0110010", "not high a", "#..##.#")
        self.told("0110010", "both high a high b", "..#..#.", "0011110")
        self.told("0110010", "either high a high b", ".#####.", "0011110")
        self.told("0000", "not yes", "....")

    def test_ago(self):
        self.told("0110010", "ago 0 high a", ".##..#.")
        self.told("0110010", "ago 2 high a", "...##..")
        self.told("0110010", "ago 3 low a", "...#..#")
        self.told("0110010", "ago 3 yes", "...####")
        self.told("0110010", "ago 7 yes", ".......")
        self.told("0110010", "ago 1000000000 low a", ".......")
        # Ahead of N it isn't so, and not so that it isn't so.
        self.told("0110010", "not ago 2 low a", "##.##..")

    def test_within(self):
        self.told("0100000", "within 0 high a", ".#.....")
        self.told("0100000", "within 3 high a", ".####..")
        self.told("0100000", "within 99 high a", ".######")
        self.told("0100010", "within 4 high a", ".######")
        self.told("0100010", "within 1000000000 fall a", "..#####")
        self.told("0100010", "within 3 not yes", ".......")

    def test_held(self):
        self.told("0111011", "held 1 high a", ".###.##")
        self.told("0111011", "held 2 high a", "..##..#")
        self.told("0111011", "held 3 high a", "...#...")
        self.told("0111011", "held 4 high a", ".......")
        self.told("0011011", "held 2 low a", ".#.....")
        self.told("0111011", "held 7 yes", "......#")
        self.told("0111011", "held 8 yes", ".......")

    def test_since(self):
        self.told("0111100", "since high a high b", "...###.", "0001010")
        self.told("0111100", "since high a high b", "#######", "1111111")
        self.told("0111101", "since high a high b", "#####..", "1100000")
        self.told("1110111", "since high a high b", "###....", "1000000")
        self.told("1110111", "since high a high b", "..#####", "0011000")
        self.told("1111111", "since high a high b", ".......", "0000000")
        self.told("0000000", "since high a high b", "..##.#.", "0011010")

    def test_nth(self):
        self.told("0110010", "nth 1 high a", ".#.....")
        self.told("0110010", "nth 2 high a", ".....#.")
        self.told("0110010", "nth 3 high a", ".......")
        self.told("0110010", "nth 1 low a", "#......")
        self.told("0110010", "nth 3 low a", "......#")
        self.told("0110010", "nth 1 yes", "#......")
        self.told("0110010", "nth 2 yes", ".......")
        self.told("0110010", "nth 1000000000 low a", ".......")

    def test_nothing_at_all(self):
        chance = random.Random(21)
        catch = (("a", ()), ("b", ()), ("c", ()))
        for _ in range(200):
            wish = some_wish(chance, "abc", 3)
            self.assertEqual(when(catch, wish), ())
            self.assertIsNone(first_when(catch, wish))
            self.refused(NoMoment, {"moment": 0}, is_so, catch, wish, 0)

    def test_plain_ones_moment_by_moment(self):
        chance = random.Random(210)
        seen = set()
        for _ in range(3000):
            catch = some_catch(chance, "abc", chance.randint(1, 50), chance.choice((1, 2, 4, 12)))
            wish = some_plain(chance, "abc", 12)
            so = truths(catch, wish)
            self.assertEqual(when(catch, wish), spans_by(t for t, truth in enumerate(so) if truth), (catch, wish))
            seen.update((wish[0], truth) for truth in so)
        self.assertEqual(seen, {(word, truth) for word in PLAIN_WORDS for truth in (True, False)} - {("yes", False)})

    def test_others_moment_by_moment(self):
        chance = random.Random(211)
        seen = set()
        for _ in range(4000):
            catch = some_catch(chance, "abc", chance.randint(1, 40), chance.choice((1, 2, 4, 12)))
            word = chance.choice(OTHER_WORDS)
            inner = [some_wish(chance, "abc", chance.choice((0, 0, 1, 2)), 12) for _ in range(2)]
            number = chance.choice((1, 1, 2, 3, 5, 39, 40, 41, BILLION))
            wish = {"not": (word, inner[0]), "both": (word, *inner), "either": (word, *inner),
                    "since": (word, *inner)}.get(word, (word, number, inner[0]))
            so = truths(catch, wish)
            self.assertEqual(when(catch, wish), spans_by(t for t, truth in enumerate(so) if truth), (catch, wish))
            seen.update((wish[0], truth) for truth in so)
        self.assertEqual(seen, {(word, truth) for word in OTHER_WORDS for truth in (True, False)})

    def test_deep_ones_moment_by_moment(self):
        chance = random.Random(212)
        for _ in range(300):
            catch = some_catch(chance, "abc", chance.randint(1, 30), chance.choice((1, 2, 4, 12)))
            wish = some_wish(chance, "abc", 7)
            so = truths(catch, wish)
            self.assertEqual(when(catch, wish), spans_by(t for t, truth in enumerate(so) if truth), (catch, wish))

    def test_slowed_moments(self):
        # Wishes that tell of no numbers of moments are so at the same moments, each as long as it is now.
        chance = random.Random(213)
        words = ("not", "both", "either", "since")
        for _ in range(200):
            many = chance.randint(1, 40)
            catch = some_catch(chance, "ab", many, 3)
            times = chance.randint(1, BILLION // many)
            slow = tuple((name, tuple((level, long * times) for level, long in line)) for name, line in catch)
            wish = self.plain_levels(chance, 3, words)
            want = tuple((begin * times, end * times) for begin, end in when(catch, wish))
            self.assertEqual(self.quickly(when, slow, wish), want)

    def plain_levels(self, chance, depth, words):
        if depth == 0:
            return (chance.choice(("high", "low")), chance.choice("ab"))
        word = chance.choice(words)
        return (word, *(self.plain_levels(chance, depth - 1, words) for _ in range(1 if word == "not" else 2)))

    def test_great_numbers_told(self):
        half = BILLION // 2
        catch = (("a", ((0, half), (1, 10), (0, half - 10))),)
        for wish, want in (("high a", ((half, half + 10),)), ("rise a", ((half, half + 1),)),
                           ("pulse a 1 10 10", ((half + 10, half + 11),)), ("pulse a 1 11 20", ()),
                           ("edges a 10 2 2", ()), ("edges a 11 2 2", ((half + 10, half + 11),)),
                           ("edges a 1000000000 2 2", ((half + 10, BILLION),)),
                           ("ago 499999999 high a", ((BILLION - 1, BILLION),)), ("ago 500000000 high a", ()),
                           ("within 400000000 high a", ((half, half + 10 + 400000000),)),
                           ("within 1000000000 high a", ((half, BILLION),)),
                           ("held 500000000 low a", ((half - 1, half),)), ("held 500000001 low a", ()),
                           ("since low a fall a", ((half + 10, BILLION),)), ("nth 2 low a", ((half + 10, half + 11),))):
            self.assertEqual(self.quickly(when, catch, read_wish(wish)), want, wish)

    def test_runs_of_millions_quickly(self):
        chance = random.Random(214)
        for _ in range(40):
            catch = tuple((name, some_long_line(chance, 130)) for name in "abc")
            wish = some_wish(chance, "abc", 5, chance.choice((100, BILLION)))
            spans = self.quickly(when, catch, wish, seconds=2)
            self.assertTrue(all(begin < end for begin, end in spans))
            self.assertTrue(all(one[1] < other[0] for one, other in zip(spans, spans[1:])))
            self.assertTrue(not spans or 0 <= spans[0][0] and spans[-1][1] <= BILLION)

    def test_hangs_on_the_lines_to_a_moment_alone(self):
        chance = random.Random(215)
        for _ in range(120):
            catch = some_catch(chance, "abc", 30, chance.choice((1, 2, 5)))
            wish = some_wish(chance, "abc", 4)
            spans = when(catch, wish)
            for end in range(31):
                want = tuple((first, min(last, end)) for first, last in spans if first < end)
                self.assertEqual(when(cut(catch, 0, end), wish), want, (catch, wish, end))

    def test_very_deep_ones(self):
        catch = catch_of({"a": row("0110010")})
        self.assertEqual(when(catch, read_wish("not " * 198 + "high a")), ((1, 3), (5, 6)))
        self.assertEqual(when(catch, read_wish("not " * 197 + "high a")), ((0, 1), (3, 5), (6, 7)))
        wish = read_wish("ago 0 " * 99 + "high a")
        for _ in range(40):
            wish = ("within", 0, ("both", wish, ("yes",)))
        self.assertEqual(when(catch, wish), ((1, 3), (5, 6)))

    def test_what_was_handed_in_stays(self):
        catch = some_catch(random.Random(216), "ab", 30, 2)
        kept = tuple((name, tuple(line)) for name, line in catch)
        when(catch, read_wish("both within 3 high a edges b 5 1 2"))
        self.assertEqual(catch, kept)


class TestMoments(Refusals, unittest.TestCase):
    def test_is_so(self):
        chance = random.Random(217)
        for _ in range(200):
            many = chance.randint(1, 30)
            catch = some_catch(chance, "abc", many, 3)
            wish = some_wish(chance, "abc", 3)
            for t, truth in enumerate(truths(catch, wish)):
                self.assertIs(is_so(catch, wish, t), truth)
            for moment in (many, many + 1, BILLION, 10 ** 30, -1, -many):
                self.refused(NoMoment, {"moment": moment}, is_so, catch, wish, moment)

    def test_first_when(self):
        chance = random.Random(218)
        for _ in range(200):
            many = chance.randint(1, 30)
            catch = some_catch(chance, "abc", many, 3)
            wish = some_wish(chance, "abc", 3)
            so = [t for t, truth in enumerate(truths(catch, wish)) if truth]
            self.assertEqual(first_when(catch, wish), so[0] if so else None)
            for begin in range(many + 3):
                left = [t for t in so if t >= begin]
                self.assertEqual(first_when(catch, wish, begin=begin), left[0] if left else None)
            self.assertIsNone(first_when(catch, wish, begin=BILLION))

    def test_of_long_catches(self):
        catch = (("a", line_of([0] * 5) + ((1, BILLION - 10), (0, 5))),)
        self.assertEqual(first_when(catch, ("low", "a"), begin=5), BILLION - 5)
        self.assertEqual(first_when(catch, ("high", "a"), begin=BILLION - 6), BILLION - 6)
        self.assertIsNone(first_when(catch, ("high", "a"), begin=BILLION - 5))
        self.assertIs(is_so(catch, ("high", "a"), BILLION - 6), True)
        self.refused(NoMoment, {"moment": BILLION}, is_so, catch, ("high", "a"), BILLION)


if __name__ == "__main__":
    unittest.main()
