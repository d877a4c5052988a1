"""Points 31 and 32: stacks, looked at, read, settled, written and read from texts."""

import itertools
import random
import unittest

from tests.helper import Refusals
from tests.stacking import slow_reading, some_stack, some_stacked_catch
from wirelooker.catches import cut, moments_of, put_behind
from wirelooker.errors import NoStack, NoText
from wirelooker.making import made
from wirelooker.packets import numbers_of
from wirelooker.stacks import look_stack, read_stack, settled, show_stack, stack_of

CLOCKED = ("clocked", "c", "rise", "d", "g", 8, "high")
FRAMED = ("framed", "d", 4, 8, "none", 1)
TWOWIRE = ("twowire", "c", "d")
PACKETS = ("packets", 7, 255, "sum")
CALLS = ("calls",)
TALKS = ("talks",)
GOOD = ([(protocol, *above) for protocol in (CLOCKED, FRAMED, TWOWIRE)
         for above in ((), (PACKETS,), (PACKETS, TALKS))] + [(TWOWIRE, CALLS)])
DEEP = ((((((((((("x",),),),),),),),),),),)


class TestLookStack(Refusals, unittest.TestCase):
    def no_stack(self, layer, word, stack, names="cdg"):
        self.refused(NoStack, {"layer": layer, "word": word}, look_stack, list(names), stack)

    def test_good_ones(self):
        for stack in GOOD:
            self.assertIs(look_stack(["c", "d", "g"], stack), True)
            self.assertIs(look_stack(names=("g", "d", "c"), stack=stack), True)
        for mark, most, check in itertools.product((0, 1, 255), (0, 254, 255), ("sum", "xor", "rest")):
            self.assertIs(look_stack("cdg", (FRAMED, ("packets", mark, most, check))), True)

    def test_no_stack_at_all(self):
        for thing in ((), "framed", None, True, 3, -10 ** 30):
            self.no_stack(0, "form", thing)
        for thing in ("framed", None, 0, (), ("framed",), PACKETS, CALLS, TALKS, (FRAMED,), DEEP):
            self.no_stack(0, "form", (thing,))
            self.no_stack(0, "form", (thing, "neither", "neither", "neither"))

    def test_the_protocols_words(self):
        for word, protocol in (
                ("form", ("framed", "d", 4, 8, "none")), ("form", ("framed", "d", True, 8, "none", 1)),
                ("line", ("framed", "x", 1, 0, "no", 3)), ("same", ("twowire", "d", "d")),
                ("edge", ("clocked", "c", "up", "d", "g", 0, "no")), ("bits", ("clocked", "c", "rise", "d", "", 17, "no")),
                ("first", ("clocked", "c", "rise", "d", "", 16, "no")), ("long", ("framed", "d", 1, 0, "no", 3)),
                ("bits", ("framed", "d", 2, 0, "no", 3)), ("check", ("framed", "d", 2, 1, "no", 3)),
                ("stops", ("framed", "d", 2, 1, "odd", 3))):
            self.no_stack(0, word, (protocol,))
            self.no_stack(0, word, (protocol, "neither", "neither", "neither"))
        self.no_stack(0, "line", (FRAMED,), names="cg")
        self.no_stack(0, "line", (TWOWIRE, CALLS), names="")

    def test_the_second_layer(self):
        for protocol in (CLOCKED, FRAMED, TWOWIRE):
            for thing in (None, "packets", "calls", "talks", 7, True, (), DEEP, TALKS, protocol, ("packets",), (PACKETS,),
                          ("packets", 7, 255), ("packets", 7, 255, "sum", "sum"), ("packet", 7, 255, "sum"),
                          ("packets", True, 255, "sum"), ("packets", 7, False, "sum"), ("packets", "7", 255, "sum"),
                          ("packets", 7, None, "sum"), ("packets", 7, 255, 1), ("packets", 7, 255, ("sum",)),
                          ("packets", 300, 300, True), ("calls", 7), ("Calls",), (7, 7, 255, "sum"), (("calls",),),
                          ((), 7, 255, "sum")):
                self.no_stack(1, "form", (protocol, thing))
                self.no_stack(1, "form", (protocol, thing, TALKS))
                self.no_stack(1, "form", (protocol, thing, None, None))
            for mark, most, check in itertools.product((-1, 256, 10 ** 40, 7), (-1, 256, -10 ** 40, 7), ("", "sums", "sum")):
                word = "mark" if mark != 7 else "most" if most != 7 else "check" if check != "sum" else None
                if word is not None:
                    self.no_stack(1, word, (protocol, ("packets", mark, most, check)))
                    self.no_stack(1, word, (protocol, ("packets", mark, most, check), None, None))
        for protocol in (CLOCKED, FRAMED):
            self.no_stack(1, "form", (protocol, CALLS))

    def test_the_third_layer_and_more(self):
        for protocol in (CLOCKED, FRAMED, TWOWIRE):
            for thing in (None, (), "talks", CALLS, PACKETS, ("talks", 1), (TALKS,), ("talk",), 0, DEEP):
                self.no_stack(2, "form", (protocol, PACKETS, thing))
                self.no_stack(2, "form", (protocol, PACKETS, thing, thing))
            for thing in (None, (), TALKS, CALLS, PACKETS, DEEP):
                self.no_stack(3, "form", (protocol, PACKETS, TALKS, thing))
                self.no_stack(3, "form", (protocol, PACKETS, TALKS, thing, thing))
        for thing in (TALKS, PACKETS, CALLS, None, ()):
            self.no_stack(2, "form", (TWOWIRE, CALLS, thing))
            self.no_stack(2, "form", (TWOWIRE, CALLS, thing, thing))

    def test_one_thing_otherwise(self):
        others = (None, True, -1, 300, "x", (), ("talks",), 10 ** 30)
        for stack in GOOD:
            for at, other in itertools.product(range(len(stack)), others):
                parts = list(stack)
                parts[at] = other
                if tuple(parts) not in GOOD:
                    self.no_stack(at, "form", tuple(parts))
            for place, other in itertools.product((1, 2, 3), others):
                if len(stack) > 1 and stack[1] == PACKETS:
                    layer = list(PACKETS)
                    layer[place] = other
                    word = ("mark", "most", "check")[place - 1]
                    sort = str if place == 3 else int
                    self.no_stack(1, word if type(other) is sort else "form", (stack[0], tuple(layer), *stack[2:]))


class TestReadStack(unittest.TestCase):
    def read(self, catch, stack):
        kept = tuple(catch)
        told = read_stack(catch, stack)
        self.assertEqual(told, slow_reading(catch, stack), (catch, stack))
        firm = settled(catch, stack)
        self.assertEqual(firm, slow_reading(catch, stack, settle=True), (catch, stack))
        self.assertEqual(catch, kept)
        self.assertEqual(len(told), len(stack))
        return told, firm

    def test_told_ones(self):
        catch = made(FRAMED, [numbers_of([(5, 30)], 7), numbers_of([(133, 40), (6,)], 7)])
        told, firm = self.read(catch, (FRAMED, PACKETS, TALKS))
        self.assertEqual([item[:2] for item in told[1]],
                         [("packet", (5, 30)), ("packet", (133, 40)), ("packet", (6,))])
        self.assertEqual([item[:2] for item in told[2]], [("talk", ((30,), (40,))), ("open", ())])
        self.assertEqual(firm, (*told[:2], told[2][:1]))
        self.assertEqual(read_stack(catch=catch, stack=(FRAMED,)), told[:1])
        self.assertEqual(settled(catch=catch, stack=(FRAMED, PACKETS)), firm[:2])

    def test_torn_by_end_in_each_layer(self):
        catch = made(TWOWIRE, [[(160, True), (7, True), (1, True), (5, True), (6, True)], [(161, False)]])
        told, firm = self.read(cut(catch, 0, moments_of(catch) - 12), (TWOWIRE, CALLS))
        self.assertEqual(told[0][-1][:2], ("torn", "end"))
        self.assertEqual(told[1][-1][:2], ("torn", "end"))
        self.assertEqual(firm, (told[0][:-1], told[1][:-1]))
        told, firm = self.read(cut(catch, 0, 140), (TWOWIRE, PACKETS, TALKS))
        self.assertEqual([item[:2] for item in told[1]], [("torn", "word")])
        # Beneath, a torn one by the end is settled no more, and so is what it would tear.
        self.assertEqual([item[:2] for item in firm[1]], [])

    def test_without_moments(self):
        for stack in GOOD:
            told, firm = self.read((("d", ()), ("c", ()), ("g", ())), stack)
            self.assertEqual(told, ((),) * len(stack))
            self.assertEqual(firm, told)

    def test_by_chance(self):
        chance = random.Random(31)
        kinds = set()
        for _ in range(400):
            stack = some_stack(chance)
            told, _ = self.read(some_stacked_catch(chance, stack), stack)
            kinds.update((len(told), stack[-1][0], item[0]) for item in told[-1])
        for kind in ("talk", "open", "lost", "stray"):
            self.assertIn((3, "talks", kind), kinds)
        for kind in ("call", "empty", "torn"):
            self.assertIn((2, "calls", kind), kinds)

    def test_what_is_settled_stays(self):
        chance = random.Random(310)
        for _ in range(60):
            stack = some_stack(chance)
            catch = some_stacked_catch(chance, stack, pieces=2, many=2)
            ahead = settled(cut(catch, 0, 0), stack)
            step = chance.choice((1, 3, 7))
            for end in (*range(0, moments_of(catch), step), moments_of(catch)):
                firm = settled(cut(catch, 0, end), stack)
                for one, other in zip(ahead, firm):
                    self.assertEqual(other[:len(one)], one, (catch, stack, end))
                ahead = firm

    def test_what_is_settled_stays_whatever_comes(self):
        chance = random.Random(311)
        for _ in range(200):
            stack = some_stack(chance)
            catch = some_stacked_catch(chance, stack, pieces=1)
            firm = settled(catch, stack)
            for _ in range(3):
                whole = put_behind(catch, some_stacked_catch(chance, stack, pieces=1))
                for one, other in zip(firm, settled(whole, stack)):
                    self.assertEqual(other[:len(one)], one, (catch, stack))


class TestStackTexts(Refusals, unittest.TestCase):
    def no_text(self, at, text):
        self.refused(NoText, {"at": at}, stack_of, text)

    def test_told_ones(self):
        self.assertEqual(show_stack((FRAMED,)), "framed d 4 8 none 1")
        self.assertEqual(show_stack((("clocked", "c", "fall", "d", "", 16, "low"), ("packets", 0, 255, "rest"), TALKS)),
                         "clocked c fall d - 16 low\npackets 0 255 rest\ntalks")
        self.assertEqual(show_stack(stack=(TWOWIRE, CALLS)), "twowire c d\ncalls")
        self.assertEqual(stack_of(text="twowire c d\ncalls"), (TWOWIRE, CALLS))
        self.assertEqual(stack_of("twowire calls talks\ncalls"), (("twowire", "calls", "talks"), CALLS))

    def test_there_and_back(self):
        chance = random.Random(32)
        for stack in [*GOOD, *[some_stack(chance) for _ in range(200)]]:
            text = show_stack(stack)
            self.assertEqual(stack_of(text), stack)
            self.assertEqual(show_stack(stack_of(text)), text)

    def test_the_first_row(self):
        for row in ("", " ", "framed", "framed d 4 8 none", "framed d 4 8 none 1 ", " framed d 4 8 none 1", "framed d 4 8  none 1",
                    "framed d 04 8 none 1", "framed d 4 8 none 3", "framed d 4 8 no 1", "framed D 4 8 none 1", "calls", "talks",
                    "packets 7 255 sum", "twowire c c", "clocked c rise d  8 high", "framed d " + "9" * 5000 + " 8 none 1",
                    "frames d 4 8 none 1", "framed d 4 8 none 1 talks", "twowire c d;"):
            self.no_text(0, row)
            self.no_text(0, row + "\ntalk")
            self.no_text(0, row + "\npackets 7 255 sum\ntalks")

    def test_the_second_row(self):
        for first in ("framed d 4 8 none 1", "clocked c rise d - 8 high", "twowire c d"):
            for row in ("", " ", "packets", "packets 7 255", "packets 7 255 sum sum", "packets 256 255 sum", "packets 7 256 sum",
                        "packets 07 255 sum", "packets 7 00 sum", "packets -1 255 sum", "packets 7 255 sums", "packets 7 255 ",
                        "packets  7 255 sum", "packets 7 255 sum ", " packets 7 255 sum", "packets 7 255 Sum", "packet 7 255 sum",
                        "packets x 255 sum", "packets 7 x sum", "packets " + "7" * 5000 + " 255 sum", "packets 7 255 7",
                        "packets 1" + "0" * 3000 + " 255 sum", "packets 7 " + "0" * 4000 + " sum", "packets 0x7 255 sum",
                        "talks", "calls ", " calls", "calls calls", "call", "calls;", first, "packets None None sum"):
                self.no_text(1, first + "\n" + row)
                self.no_text(1, first + "\n" + row + "\ntalks")
                self.no_text(1, first + "\n" + row + "\n")
            if first != "twowire c d":
                self.no_text(1, first + "\ncalls")
            self.no_text(1, first + "\n")

    def test_the_third_row_and_more(self):
        for first in ("framed d 4 8 none 1", "clocked c rise d - 8 high", "twowire c d"):
            two = first + "\npackets 7 255 sum\n"
            for row in ("", " ", "talk", "talks ", " talks", "talks talks", "Talks", "calls", "packets 7 255 sum", first, "talks 7 255 sum"):
                self.no_text(2, two + row)
                self.no_text(2, two + row + "\ntalks")
            for row in ("", "talks", "calls", "x", " "):
                self.no_text(3, two + "talks\n" + row)
                self.no_text(3, two + "talks\n" + row + "\n" + row)
        for row in ("", "talks", "calls", "packets 7 255 sum"):
            self.no_text(2, "twowire c d\ncalls\n" + row)

    def test_rows_left_out_twice_and_exchanged(self):
        rows = ["framed d 4 8 none 1", "packets 7 255 sum", "talks"]
        self.no_text(0, "\n".join(rows[1:]))
        self.no_text(1, "\n".join([rows[0], rows[2]]))
        for order, at in (((0, 0, 1, 2), 1), ((0, 1, 1, 2), 2), ((0, 1, 2, 2), 3), ((1, 0, 2), 0), ((0, 2, 1), 1),
                          ((2, 1, 0), 0), ((0, 1, 2, 0), 3)):
            self.no_text(at, "\n".join(rows[row] for row in order))

    def test_every_sign_otherwise(self):
        for stack in GOOD:
            text = show_stack(stack)
            for at in range(len(text) + 1):
                for other in (text[:at] + text[at + 1:], *[text[:at] + sign + text[at + 1:] for sign in " \n0x-"],
                              *[text[:at] + sign + text[at:] for sign in " \n0x-"]):
                    try:
                        told = stack_of(other)
                    except NoText as error:
                        self.assertEqual(error.at, self.slow_at(other), other)
                    else:
                        self.assertEqual(show_stack(told), other)
                        self.assertIs(look_stack([part for part in told[0][1:] if isinstance(part, str)], told), True)

    @staticmethod
    def slow_at(text):
        """The first row by which no text of a stack begins so."""
        rows = text.split("\n")
        for many in range(1, len(rows) + 1):
            try:
                stack_of("\n".join(rows[:many]))
            except NoText:
                return many - 1
        return None


if __name__ == "__main__":
    unittest.main()
