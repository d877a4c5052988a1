"""Point 28: calls, read from rows of items of two wires."""

import itertools
import random
import unittest

from tests.helper import some_catch
from wirelooker.calls import calls_in
from wirelooker.making import made
from wirelooker.reading import read_words

SIGNS = {"S": ("start", ""), "P": ("stop", ""), "T": ("torn", "bits"), "E": ("torn", "end"),
         "a": ("word", 160), "b": ("word", 161), "m": ("mute", 7), "w": ("word", 255)}


def items_of(text):
    """Items of two wires, one sign for each, at moments that rise."""
    return tuple((*SIGNS[sign], 10 * at + 1, 10 * at + 9, (("d", 10 * at + 1), ("d", 10 * at + 8)))
                 for at, sign in enumerate(text))


def slow_calls(items):
    """The calls, looked for from each start on."""
    kinds = [item[0] for item in items]
    calls = []
    for begin in [at for at, kind in enumerate(kinds) if kind == "start"]:
        behind = kinds[begin + 1:]
        ends = [at for at, kind in enumerate(behind) if kind in ("start", "stop")]
        last = len(items) - 1
        if ends:
            last = begin + 1 + ends[0] - (1 if behind[ends[0]] == "start" else 0)
        parts = tuple(range(begin, last + 1))
        told = [items[part] for part in parts if items[part][0] in ("word", "mute")]
        if not ends:
            kind, what = "torn", "end"
        elif any(items[part][0] == "torn" for part in parts):
            kind, what = "torn", "bits"
        elif not told:
            kind, what = "empty", ""
        else:
            address, read = divmod(told[0][1], 2)
            kind = "call"
            what = (address, "read" if read else "write", tuple(item[1] for item in told[1:]), told[0][0] == "word")
        calls.append((kind, what, items[begin][2], items[last][3], parts))
    return tuple(calls)


class TestCalls(unittest.TestCase):
    def calls(self, text):
        items = items_of(text)
        told = calls_in(items)
        self.assertEqual(told, slow_calls(items), text)
        return [(kind, what, parts) for kind, what, _, _, parts in told]

    def test_told_ones(self):
        self.assertEqual(calls_in(()), ())
        self.assertEqual(calls_in([]), ())
        self.assertEqual(calls_in(items_of("SawP")), (("call", (80, "write", (255,), True), 1, 39, (0, 1, 2, 3)),))
        self.assertEqual(self.calls("SbP"), [("call", (80, "read", (), True), (0, 1, 2))])
        self.assertEqual(self.calls("SmawmP"), [("call", (3, "read", (160, 255, 7), False), (0, 1, 2, 3, 4, 5))])
        self.assertEqual(self.calls("SP"), [("empty", "", (0, 1))])
        self.assertIs(calls_in(items_of("SmP"))[0][1][3], False)
        self.assertIs(calls_in(items_of("SaP"))[0][1][3], True)

    def test_a_start_behind_a_start(self):
        self.assertEqual(self.calls("SaSbwP"), [("call", (80, "write", (), True), (0, 1)),
                                                ("call", (80, "read", (255,), True), (2, 3, 4, 5))])
        self.assertEqual(self.calls("SSP"), [("empty", "", (0,)), ("empty", "", (1, 2))])
        self.assertEqual(calls_in(items_of("SSP"))[0][2:4], (1, 9))

    def test_torn_ones(self):
        self.assertEqual(self.calls("SaT"), [("torn", "end", (0, 1, 2))])
        self.assertEqual(self.calls("S"), [("torn", "end", (0,))])
        self.assertEqual(self.calls("SaE"), [("torn", "end", (0, 1, 2))])
        self.assertEqual(self.calls("STP"), [("torn", "bits", (0, 1, 2))])
        self.assertEqual(self.calls("SaTSaP"), [("torn", "bits", (0, 1, 2)), ("call", (80, "write", (), True), (3, 4, 5))])
        self.assertEqual(self.calls("SaPSa"), [("call", (80, "write", (), True), (0, 1, 2)), ("torn", "end", (3, 4))])

    def test_what_is_in_no_call(self):
        self.assertEqual(self.calls("PaamTPSaP"), [("call", (80, "write", (), True), (6, 7, 8))])
        self.assertEqual(self.calls("SaPaPTSbP"), [("call", (80, "write", (), True), (0, 1, 2)),
                                                   ("call", (80, "read", (), True), (6, 7, 8))])
        self.assertEqual(self.calls("aPTm"), [])

    def test_each_first_byte(self):
        for number in range(256):
            items = (("start", "", 0, 1, (("d", 0),)), ("word", number, 2, 9, (("d", 2),)), ("stop", "", 9, 10, ()))
            way = ("write", "read")[number % 2]
            self.assertEqual(calls_in(items), (("call", (number // 2, way, (), True), 0, 10, (0, 1, 2)),))

    def test_every_short_row(self):
        for many in range(6):
            for signs in itertools.product("SPTam", repeat=many):
                self.calls("".join(signs))

    def test_beginnings_of_rows_that_were_read(self):
        chance = random.Random(28)
        kinds = set()
        for _ in range(300):
            items = read_words(some_catch(chance, "cd", chance.choice((20, 120)), chance.choice((2, 3))), ("twowire", "c", "d"))
            for many in range(len(items) + 1):
                told = calls_in(items[:many])
                self.assertEqual(told, slow_calls(items[:many]))
                self.assertEqual(calls_in(list(items[:many])), told)
                kinds.update(call[:2] if call[0] == "torn" else call[0] for call in told)
        self.assertEqual(kinds, {"call", "empty", ("torn", "end"), ("torn", "bits")})

    def test_made_calls(self):
        groups = [[(160, True), (1, True), (2, False)], [], [(161, False), (9, True)]]
        told = calls_in(read_words(made(("twowire", "c", "d"), groups), ("twowire", "c", "d")))
        self.assertEqual([call[:2] for call in told], [
            ("call", (80, "write", (1, 2), True)), ("empty", ""), ("call", (80, "read", (9,), False))])

    def test_what_is_handed_in_stays(self):
        items = list(items_of("aSamPSTSaP"))
        kept = list(items)
        first = calls_in(items)
        self.assertEqual(items, kept)
        self.assertEqual(calls_in(items=tuple(items)), first)
        items.clear()
        self.assertEqual(len(first), 3)


if __name__ == "__main__":
    unittest.main()
