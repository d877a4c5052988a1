"""Points 8 to 10: protocols, looked at, and their texts."""

import itertools
import random
import unittest

from tests.helper import Refusals
from wirelooker.errors import NoProtocol, NoText
from wirelooker.protocols import look_protocol, many_words, protocol_of, read_protocol, show_protocol

NAMES = ("c", "d", "g", "x")
CLOCKED = ("clocked", "c", "rise", "d", "g", 8, "high")
FRAMED = ("framed", "d", 16, 8, "none", 1)
TWOWIRE = ("twowire", "c", "d")
FORMS = (CLOCKED, FRAMED, TWOWIRE)
TEXT_AT = {"clocked": (1, 2, 3, 4, 6), "framed": (1, 4), "twowire": (1, 2)}
NO_TEXTS = (None, True, False, 0, 1, -1, 10 ** 40, (), ("c",), (("c",),))
NO_NUMBERS = (None, True, False, "", "1", "8", "c", (), (8,), ((8,),))


def with_at(protocol, *changes):
    parts = list(protocol)
    for at, thing in changes:
        parts[at] = thing
    return tuple(parts)


class TestLook(Refusals, unittest.TestCase):
    def look_refused(self, word, protocol, names=NAMES):
        for rows in (tuple(names), list(names)):
            self.refused(NoProtocol, {"word": word}, look_protocol, rows, protocol)

    def let_by(self, protocol, names=NAMES):
        self.assertIs(look_protocol(tuple(names), protocol), True)
        self.assertIs(look_protocol(list(names), protocol), True)

    def test_good_ones(self):
        for edge, gate, first in itertools.product(("rise", "fall"), ("", "g"), ("high", "low")):
            for bits in range(1, 17):
                self.let_by(("clocked", "c", edge, "d", gate, bits, first))
        for check, stops, bits in itertools.product(("none", "even", "odd"), (1, 2), range(1, 17)):
            for long in (2, 3, 999999, 1000000):
                self.let_by(("framed", "d", long, bits, check, stops))
        self.let_by(("twowire", "c", "d"))
        self.let_by(("twowire", "d", "c"))
        self.let_by(("framed", "d", 2, 1, "none", 1), ("d",))
        self.assertIs(look_protocol(names=NAMES, protocol=TWOWIRE), True)

    def test_things_without_form(self):
        things = [None, True, False, 0, -3, 10 ** 40, "", "twowire", "clocked", (), ("",), (None,), (True,), (2,), ((),),
                  ("clocked",), ("framed",), ("twowire",), ("Twowire", "c", "d"), ("two", "c", "d"), ("", "c", "d"),
                  (None, "c", "d"), (True, "c", "d"), (2, "c", "d"), (("twowire",), "c", "d"), (TWOWIRE,),
                  ["twowire", "c", "d"], ("packets", 1, 2, "sum"), ("calls",), ((((((((((((),),),),),),),),),),),)]
        for thing in things:
            self.look_refused("form", thing)

    def test_other_counts(self):
        for protocol in FORMS:
            for many in range(1, len(protocol)):
                self.look_refused("form", protocol[:many])
            for more in ("c", 1, None):
                self.look_refused("form", protocol + (more,))
        self.look_refused("form", ("clocked", "c", "d"))
        self.look_refused("form", ("twowire", "d", 16, 8, "none", 1))

    def test_other_sorts(self):
        for protocol in FORMS:
            for at in range(1, len(protocol)):
                for thing in NO_TEXTS if at in TEXT_AT[protocol[0]] else NO_NUMBERS:
                    self.look_refused("form", with_at(protocol, (at, thing)))

    def test_form_is_due_ahead_of_all_else(self):
        self.look_refused("form", ("clocked", "q", "up", "q", "q", 0, 5))
        self.look_refused("form", ("clocked", "q", "up", "q", "q", True, "none"))
        self.look_refused("form", ("framed", "q", 0, 0, "", None))
        self.look_refused("form", ("twowire", "q", 1), ())

    def test_line(self):
        for protocol, places in ((CLOCKED, (1, 3, 4)), (FRAMED, (1,)), (TWOWIRE, (1, 2))):
            for at in places:
                for name in ("q", "cd", "C", " ", "c ", "-"):
                    self.look_refused("line", with_at(protocol, (at, name)))
            self.look_refused("line", protocol, ())
            self.look_refused("line", protocol, ("q",))
        self.look_refused("line", with_at(CLOCKED, (1, "")))
        self.look_refused("line", with_at(CLOCKED, (3, "")))
        self.look_refused("line", with_at(CLOCKED, (1, ""), (4, "")))
        self.look_refused("line", with_at(FRAMED, (1, "")))
        self.look_refused("line", with_at(TWOWIRE, (1, "")))
        self.look_refused("line", with_at(TWOWIRE, (2, "")))
        self.look_refused("line", with_at(CLOCKED), ("c", "d"))
        self.let_by(with_at(CLOCKED, (4, "")), ("c", "d"))

    def test_same(self):
        self.look_refused("same", with_at(CLOCKED, (3, "c")))
        self.look_refused("same", with_at(CLOCKED, (4, "c")))
        self.look_refused("same", with_at(CLOCKED, (4, "d")))
        self.look_refused("same", with_at(CLOCKED, (3, "c"), (4, "c")))
        self.look_refused("same", with_at(CLOCKED, (3, "c"), (4, "")))
        self.look_refused("same", ("twowire", "c", "c"))
        self.look_refused("same", ("twowire", "c", "c"), ("c",))

    def test_things_none_of_those_told(self):
        wrong = {
            "edge": (CLOCKED, 2, ("", "up", "RISE", "rise ", "high", "none")),
            "bits": (CLOCKED, 5, (0, -1, 17, 10 ** 40, -10 ** 40)),
            "first": (CLOCKED, 6, ("", "low ", "High", "rise", "even")),
        }
        framed = {
            "long": (FRAMED, 2, (1, 0, -2, 1000001, 10 ** 40)),
            "bits": (FRAMED, 3, (0, -1, 17, 10 ** 40)),
            "check": (FRAMED, 4, ("", "sum", "Even", "odd ", "high")),
            "stops": (FRAMED, 5, (0, -1, 3, 10 ** 40)),
        }
        for table in (wrong, framed):
            for word, (protocol, at, things) in table.items():
                for thing in things:
                    self.look_refused(word, with_at(protocol, (at, thing)))

    def test_the_one_due_first(self):
        # From the last due to the first: each is told as soon as it is there, whatever is due behind it.
        for protocol, steps in (
            (CLOCKED, (("first", 6, "up"), ("bits", 5, 17), ("edge", 2, "up"), ("same", 3, "c"), ("line", 4, "q"),
                       ("form", 6, 3))),
            (FRAMED, (("stops", 5, 3), ("check", 4, ""), ("bits", 3, 0), ("long", 2, 1), ("line", 1, "q"),
                      ("form", 5, True))),
            (TWOWIRE, (("same", 2, "c"), ("line", 2, "q"), ("form", 2, None))),
        ):
            made = protocol
            for word, at, thing in steps:
                made = with_at(made, (at, thing))
                self.look_refused(word, made)

    def test_every_two_wrongs(self):
        order = ("form", "line", "same", "edge", "long", "bits", "first", "check", "stops")
        wrongs = {
            "clocked": (("line", 4, "q"), ("same", 3, "c"), ("edge", 2, ""), ("bits", 5, 0), ("first", 6, ""),
                        ("form", 1, 5)),
            "framed": (("line", 1, "q"), ("long", 2, 0), ("bits", 3, 99), ("check", 4, ""), ("stops", 5, 0)),
        }
        for protocol in (CLOCKED, FRAMED):
            for one, other in itertools.combinations(wrongs[protocol[0]], 2):
                due = min(one[0], other[0], key=order.index)
                self.look_refused(due, with_at(protocol, one[1:], other[1:]))

    def test_names(self):
        self.let_by(("twowire", "rise", "framed"), ("framed", "rise"))
        self.let_by(("clocked", "high", "fall", "low", "rise", 1, "low"), ("high", "low", "rise"))
        self.let_by(FRAMED, ["d"] * 3)

    def test_nothing_handed_in_is_changed(self):
        names = ["c", "d", "g"]
        look_protocol(names, CLOCKED)
        self.look_refused("line", ("twowire", "q", "d"), names)
        self.assertEqual(names, ["c", "d", "g"])
        self.assertEqual(CLOCKED, ("clocked", "c", "rise", "d", "g", 8, "high"))


class TestTexts(Refusals, unittest.TestCase):
    def both_ways(self, protocol, text):
        self.assertEqual(show_protocol(protocol), text)
        self.assertEqual(read_protocol(text), protocol)
        self.assertEqual([type(part) for part in read_protocol(text)], [type(part) for part in protocol])

    def text_refused(self, text):
        self.refused(NoText, {"at": 0}, read_protocol, text)

    def test_told_ones(self):
        self.both_ways(CLOCKED, "clocked c rise d g 8 high")
        self.both_ways(with_at(CLOCKED, (4, "")), "clocked c rise d - 8 high")
        self.both_ways(FRAMED, "framed d 16 8 none 1")
        self.both_ways(TWOWIRE, "twowire c d")
        self.assertEqual(show_protocol(protocol=TWOWIRE), "twowire c d")
        self.assertEqual(read_protocol(text="twowire c d"), TWOWIRE)

    def test_each_there_and_back(self):
        for edge, gate, first, bits in itertools.product(("rise", "fall"), ("", "g"), ("high", "low"), range(1, 17)):
            protocol = ("clocked", "c", edge, "d", gate, bits, first)
            self.both_ways(protocol, " ".join(["clocked", "c", edge, "d", gate or "-", str(bits), first]))
        for check, stops, bits in itertools.product(("none", "even", "odd"), (1, 2), range(1, 17)):
            for long in (2, 9, 10, 1000000):
                protocol = ("framed", "abcdef", long, bits, check, stops)
                self.both_ways(protocol, " ".join(map(str, protocol)))

    def test_names_that_are_words(self):
        words = ("rise", "fall", "high", "low", "framed", "none", "even", "odd")
        for one, other in itertools.permutations(words, 2):
            self.both_ways(("twowire", one, other), "twowire " + one + " " + other)
            self.both_ways(("clocked", one, "fall", other, "", 3, "low"), "clocked " + one + " fall " + other + " - 3 low")
        for word in words:
            self.both_ways(("framed", word, 2, 1, "odd", 2), "framed " + word + " 2 1 odd 2")

    def test_texts_of_none(self):
        for text in ("", " ", "\n", "x", "-", "clocked", "framed", "twowire", "calls", "packets 1 2 sum", "none",
                     "clocked c rise d - 8 high\n", "clocked c rise d - 8 high ", " clocked c rise d - 8 high",
                     "clocked  c rise d - 8 high", "clocked c rise d  8 high", "clocked c rise d 8 high",
                     "clocked c rise d - 8 high high", "clocked c rise d - 8", "clocked - rise d - 8 high",
                     "clocked c rise - - 8 high", "clocked c rise d -- 8 high", "clocked c rise d - 8\nhigh"):
            self.text_refused(text)

    def test_each_part_otherwise(self):
        wrongs = {
            "name": ("", "-", "C", "abcdefg", "c1", "1", "c.", "c-", "_", "c\n", "\u00e4"),
            "edge": ("", "up", "Rise", "high", "none", "-", "1"),
            "first": ("", "Low", "rise", "-", "1"),
            "bits": ("", "0", "17", "08", "00", "+8", "-8", "8.0", "8.", "0x8", "8_0", "eight", "-", "\u0668", "1e1",
                     "10000000000", "8" * 5000),
            "long": ("", "0", "1", "1000001", "016", "+16", "-16", "1.6", "\u00b2", "16\n", "9" * 11),
            "check": ("", "no", "None", "sum", "-", "0"),
            "stops": ("", "0", "3", "01", "+1", "-1", "1.0", "11"),
        }
        parts = {
            "clocked c rise d g 8 high": ("name", "edge", "name", "gate", "bits", "first"),
            "framed d 16 8 none 1": ("name", "long", "bits", "check", "stops"),
            "twowire c d": ("name", "name"),
        }
        for text, kinds in parts.items():
            words = text.split(" ")
            read_protocol(text)
            for at, kind in enumerate(kinds, start=1):
                things = [thing for thing in wrongs["name"] if thing != "-"] if kind == "gate" else wrongs[kind]
                for thing in things:
                    self.text_refused(" ".join(words[:at] + [thing] + words[at + 1:]))
            for word in ("", words[0].upper(), words[0][:-1], words[0] + "s", "packets"):
                self.text_refused(" ".join([word] + words[1:]))
            for at in range(len(words)):
                self.text_refused(" ".join(words[:at] + words[at + 1:]))
                for more in ("", "c", "1", "-"):
                    self.text_refused(" ".join(words[:at] + [more] + words[at:]))

    def test_lines_that_are_one(self):
        for text in ("twowire c c", "clocked c rise c - 8 high", "clocked c rise d c 8 high", "clocked c rise d d 8 high"):
            self.text_refused(text)

    def test_each_text_read_is_written_again(self):
        chance = random.Random(10)
        words = ("clocked", "framed", "twowire", "c", "d", "-", "", "rise", "high", "8", "08", "16", "none", "1", "2")
        read = 0
        for _ in range(30000):
            text = " ".join(chance.choice(words) for _ in range(chance.choice((3, 3, 3, 6, 7))))
            try:
                protocol = read_protocol(text)
            except NoText:
                continue
            read += 1
            self.assertEqual(show_protocol(protocol), text)
            self.assertIs(look_protocol([part for part in protocol if isinstance(part, str)], protocol), True)
        self.assertGreater(read, 20)

    def test_protocol_of_words(self):
        self.assertEqual(protocol_of(["twowire", "c", "d"]), TWOWIRE)
        self.assertIsNone(protocol_of(["twowire", "c"]))
        self.assertIsNone(protocol_of(["calls"]))
        self.assertIsNone(protocol_of([""]))
        self.assertEqual([many_words(word) for word in ("clocked", "framed", "twowire", "calls", "", "rise")], [7, 6, 3, 0, 0, 0])


if __name__ == "__main__":
    unittest.main()
