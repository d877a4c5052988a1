"""Point 20: the texts of wishes, written and read."""

import itertools
import random
import unittest

from tests.helper import Refusals
from tests.test_wishes import GOOD, READ
from tests.wishing import some_wish
from wirelooker.errors import NoText
from wirelooker.wishes import deep
from wirelooker.wishtexts import read_wish, show_wish

PLAIN = {"yes": "", "high": "x", "low": "x", "rise": "x", "fall": "x", "pulse": "xnnn", "edges": "xnnn", "read": "nnp",
         "not": "w", "both": "ww", "either": "ww", "ago": "nw", "within": "nw", "held": "nw", "since": "ww", "nth": "nw"}
WANTS = {"clocked": 7, "framed": 6, "twowire": 3}
GREATEST = 9999999999


def is_figures(word):
    return word.isascii() and word.isdigit() and len(word) <= 10 and (word == "0" or word[0] != "0")


def is_line(word):
    return 1 <= len(word) <= 6 and word.isascii() and word.isalpha() and word.islower()


def is_protocol(words):
    """Whether words write a protocol, as 8 to 10 tell it."""
    if words[0] == "twowire":
        return is_line(words[1]) and is_line(words[2]) and words[1] != words[2]
    if words[0] == "framed":
        _, data, long, bits, check, stops = words
        return (is_line(data) and is_figures(long) and 2 <= int(long) <= 1000000 and is_figures(bits)
                and 1 <= int(bits) <= 16 and check in ("none", "even", "odd") and stops in ("1", "2"))
    _, clock, edge, data, gate, bits, first = words
    lines = [clock, data] + [gate] * (gate != "-")
    return (all(map(is_line, lines)) and len(set(lines)) == len(lines) and edge in ("rise", "fall")
            and is_figures(bits) and 1 <= int(bits) <= 16 and first in ("high", "low"))


def fault_of(text):
    """The word at which a text is refused, None where it is read: word by word, with what may still come."""
    words = text.split(" ")
    due = "w"
    at = 0
    while due:
        if at >= 200 or at >= len(words):
            return at
        kind, due = due[0], due[1:]
        word = words[at]
        if kind == "p":
            if word not in WANTS:
                return at
            if at + WANTS[word] > 200 and len(words) > 200:
                return 200
            if at + WANTS[word] > len(words):
                return len(words)
            if not is_protocol(words[at:at + WANTS[word]]):
                return at
            at += WANTS[word]
            continue
        if kind == "w":
            if word not in PLAIN:
                return at
            due = PLAIN[word] + due
        elif not (is_line(word) if kind == "x" else is_figures(word)):
            return at
        at += 1
    return at if at < len(words) else None


class TestWishTexts(Refusals, unittest.TestCase):
    def read_refused(self, at, text):
        self.refused(NoText, {"at": at}, read_wish, text)

    def both_ways(self, wish, text):
        self.assertEqual(show_wish(wish), text)
        self.assertEqual(read_wish(text), wish)

    def test_told_ones(self):
        self.both_ways(("both", ("held", 5, ("high", "a")), ("rise", "b")), "both held 5 high a rise b")
        self.both_ways(("read", ("twowire", "c", "d"), 1, 255), "read 1 255 twowire c d")
        self.both_ways(("not", ("read", ("clocked", "c", "rise", "d", "", 8, "high"), 0, 10)),
                       "not read 0 10 clocked c rise d - 8 high")
        self.both_ways(("since", ("read", ("framed", "d", 16, 8, "even", 2), 7, 7), ("yes",)),
                       "since read 7 7 framed d 16 8 even 2 yes")
        self.both_ways(("pulse", "high", 1, 20, 300), "pulse high 1 20 300")
        self.both_ways(("edges", "x", 10, 2, 3), "edges x 10 2 3")
        self.both_ways(("either", ("ago", 0, ("low", "low")), ("nth", 3, ("within", 12, ("fall", "yes")))),
                       "either ago 0 low low nth 3 within 12 fall yes")

    def test_kinds_that_are_told(self):
        wish = read_wish("pulse a 1 0 2")
        self.assertEqual([type(thing) for thing in wish], [str, str, int, int, int])
        self.assertEqual([type(thing) for thing in read_wish("not read 1 2 twowire a b")[1]], [str, tuple, int, int])
        self.assertIs(type(show_wish(wish)), str)

    def test_each_form(self):
        for wish in GOOD:
            self.both_ways(wish, show_wish(wish))
            self.assertIsNone(fault_of(show_wish(wish)))

    def test_by_chance(self):
        chance = random.Random(20)
        for _ in range(1000):
            wish = some_wish(chance, ("a", "bc", "high", "twowir", "zzzzzz"), chance.randint(0, 5), 1000000000)
            text = show_wish(wish)
            if text.count(" ") < 200:
                self.both_ways(wish, text)

    def test_wishes_that_are_refused_else(self):
        for wish in (("pulse", "a", 7, 9, 2), ("pulse", "a", GREATEST, GREATEST, 0), ("edges", "zz", 0, 3, 2),
                     ("read", READ, 5, 4), ("read", ("twowire", "q", "r"), 0, GREATEST), ("ago", GREATEST, ("yes",)),
                     ("held", 0, ("yes",)), ("nth", 0, ("yes",)), ("within", 1000000001, ("high", "nobody"))):
            self.both_ways(wish, show_wish(wish))

    def test_words_that_write_none(self):
        for at, text in ((0, ""), (0, " "), (0, "no"), (0, "Yes"), (0, "yes\n"), (0, "a"), (0, "7"), (0, " yes"),
                         (1, "yes "), (1, "yes yes"), (1, "yes  "), (2, "high a "), (2, "high a b"), (1, "high"),
                         (1, "high A"), (1, "high abcdefg"), (1, "high "), (1, "high  a"), (1, "high a1"), (1, "high 1"),
                         (1, "high -"), (1, "not"), (1, "not "), (1, "not a"), (2, "both yes"), (2, "both yes "),
                         (2, "both yes x"), (3, "both yes yes yes"), (1, "ago"), (1, "ago yes"), (2, "ago 1"),
                         (2, "ago 1 2"), (1, "ago x yes"), (1, "ago -1 yes"), (1, "ago +1 yes"), (1, "ago 1_0 yes"),
                         (2, "pulse a"), (2, "pulse a b 1 2"), (3, "pulse a 1"), (4, "pulse a 1 2"), (5, "pulse a 1 2 3 4"),
                         (1, "pulse 1 a 2 3"), (1, "read twowire a b 1 2"), (3, "read 1 2"), (3, "read 1 2 yes"),
                         (3, "read 1 2 "), (3, "read 1 2 twowires a b"), (2, "read 1"), (2, "read 1 twowire a b")):
            self.read_refused(at, text)
            self.assertEqual(fault_of(text), at)

    def test_figures(self):
        for word in ("0", "1", "9", "10", "1000000000", "1000000001", "9999999999"):
            self.both_ways(("ago", int(word), ("yes",)), f"ago {word} yes")
            self.both_ways(("pulse", "a", int(word), int(word), int(word)), f"pulse a {word} {word} {word}")
            self.both_ways(("read", READ, int(word), int(word)), f"read {word} {word} twowire a b")
        for word in ("00", "01", "010", "10000000000", "99999999999", "0000000001", "1.0", "1e3", "one", "", "0x1", "-0"):
            self.read_refused(1, f"ago {word} yes")
            for at in (2, 3, 4):
                words = ["pulse", "a", "1", "2", "3"]
                words[at] = word
                self.read_refused(at, " ".join(words))
            self.read_refused(1, f"read {word} 3 twowire a b")
            self.read_refused(2, f"read 3 {word} twowire a b")

    def test_protocols_within(self):
        whole = ("clocked c rise d g 16 low", "clocked c fall d - 1 high", "framed d 2 1 none 1",
                 "framed odd 1000000 16 odd 2", "twowire c d", "twowire framed clock")
        for text in whole:
            words = text.split(" ")
            self.assertEqual(show_wish(read_wish("read 1 2 " + text)), "read 1 2 " + text)
            self.assertEqual(show_wish(read_wish(f"both read 1 2 {text} yes")), f"both read 1 2 {text} yes")
            # Broken off it ends too early, whatever stands in what is there.
            for many in range(1, len(words)):
                self.read_refused(3 + many, "read 1 2 " + " ".join(words[:many]))
                self.read_refused(3 + many, "read 1 2 " + " ".join([words[0]] + ["?"] * (many - 1)))
                self.read_refused(3 + many, "read 1 2 " + " ".join([words[0]] + [""] * (many - 1)))
            # Wrong, where as many words are there, it is refused at its first one.
            for at in range(1, len(words)):
                for word in ("?", "", "Rise", "0"):
                    wrong = words[:at] + [word] + words[at + 1:]
                    self.read_refused(3, "read 1 2 " + " ".join(wrong))
                    self.read_refused(5, "both yes read 1 2 " + " ".join(wrong) + " yes")
            self.read_refused(3 + len(words), f"read 1 2 {text} yes")
            self.read_refused(4 + len(words), f"both read 1 2 {text}")
        self.read_refused(3, "read 1 2 twowire c c")
        self.read_refused(3, "read 1 2 clocked c rise d c 8 low")
        self.read_refused(3, "read 1 2 framed d 1 8 none 1")
        # Of one with a word too few it takes the word behind it, and is wrong by that.
        self.read_refused(4, "both read 1 2 clocked c rise d 8 low yes")

    def test_200_words_and_201(self):
        for many, end in ((199, "yes"), (198, "high a"), (195, "pulse a 1 2 3"), (194, "read 1 2 twowire c d"),
                          (190, "read 1 2 clocked c rise d - 8 low")):
            text = "not " * many + end
            self.assertEqual(text.count(" "), 199)
            wish = read_wish(text)
            self.assertEqual(deep(wish), many)
            self.assertEqual(show_wish(wish), text)
            self.read_refused(200, text + " yes")
            self.read_refused(200, text + " ")
            self.read_refused(200, "not " + text)
            self.read_refused(200, "not " * 5 + text)
        self.read_refused(199, "not " * 199 + "no")
        self.read_refused(200, "not " * 199 + "not")
        self.read_refused(200, "not " * 199 + "high")
        self.read_refused(200, "not " * 200 + "no")
        self.read_refused(200, "not " * 300)
        self.read_refused(1, "yes" + " not" * 300)
        self.read_refused(77, "not " * 77 + "no " + "not " * 300)
        self.both_ways(read_wish("both yes " * 99 + "not yes"), "both yes " * 99 + "not yes")
        self.read_refused(200, "both yes " * 100)

    def test_protocols_at_the_201st_word(self):
        for ahead in range(180, 200):
            start = "not " * (ahead - 3) + "read 1 2 "
            for protocol in ("twowire c d", "twowire c c", "twowire ? ?", "framed d 4 8 none 1", "framed d 4 8 none 9",
                             "clocked c rise d - 8 low", "clocked c rise c - 8 low", "clocked", "framed d", "serial c d"):
                for behind in ("", " yes", " " + "yes " * 30, " x" * 15):
                    text = start + protocol + behind
                    at = fault_of(text)
                    if at is None:
                        self.assertEqual(show_wish(read_wish(text)), text)
                    else:
                        self.read_refused(at, text)
        start = "not " * 195 + "read 1 2 "
        self.read_refused(200, start + "twowire c c")
        self.read_refused(199, start + "twowire")
        self.read_refused(199, start[4:] + "twowire c")
        self.read_refused(200, start + "twowire c")
        self.read_refused(198, start + "nowire c c")
        self.read_refused(197, start[4:] + "twowire c c")
        self.read_refused(197, start[4:] + "twowire c c yes")
        self.read_refused(200, start[4:] + "twowire c d yes")

    def test_one_word_otherwise(self):
        chance = random.Random(201)
        words = ["", "a", "yes", "both", "not", "read", "1", "01", "twowire", "framed", "-", "zzzzzzz", "held", "none"]
        refused = 0
        for _ in range(3000):
            text = show_wish(some_wish(chance, ("a", "b", "c"), chance.randint(0, 4))).split(" ")
            for _ in range(chance.randint(1, 2)):
                at = chance.randrange(len(text) + 1)
                step = chance.randrange(3)
                text[at:at + (step > 0)] = [chance.choice(words)] if step < 2 else []
            text = " ".join(text)
            at = fault_of(text)
            if at is None:
                self.assertEqual(show_wish(read_wish(text)), text)
            else:
                self.read_refused(at, text)
                refused += 1
        self.assertGreater(refused, 2000)

    def test_each_beginning(self):
        text = "either held 3 both high a not read 5 9 framed a 4 8 even 1 edges b 2 1 1"
        words = text.split(" ")
        self.assertIsNone(fault_of(text))
        for many in range(1, len(words)):
            self.read_refused(many, " ".join(words[:many]))
            if words[many] not in ("a", "4", "8", "even", "1") or many > 16:
                self.read_refused(many, " ".join(words[:many] + ["?"] + words[many + 1:]))

    def test_rows_of_parts_quickly(self):
        for start in itertools.product(("both yes ", "not ", "ago 1 "), repeat=2):
            self.quickly(read_wish, "".join(start) * 10 + "yes")


if __name__ == "__main__":
    unittest.main()
