"""Points 16 and 17: lines made of words, run by run, read again, and each word cut out."""

import itertools
import random
import unittest

from tests.helper import BILLION, Refusals, levels_of, line_of, some_catch
from tests.wishing import some_protocol
from wirelooker.catches import look_catch, put_behind
from wirelooker.catchtexts import show_catch
from wirelooker.errors import NoNumber
from wirelooker.making import HALF, cut_out, made
from wirelooker.reading import read_words

CLOCKED = ("clocked", "c", "rise", "d", "g", 3, "high")
FRAMED = ("framed", "d", 3, 2, "none", 1)
TWOWIRE = ("twowire", "c", "d")
FORMS = [("clocked", "c", edge, "d", gate, 5, first)
         for edge in ("rise", "fall") for gate in ("g", "") for first in ("high", "low")]
FORMS += [("framed", "d", long, 5, check, stops)
          for long in (2, 7) for check in ("none", "even", "odd") for stops in (1, 2)]
FORMS += [TWOWIRE, ("twowire", "d", "c")]


def slow_levels(protocol, groups, half):
    """The levels of each line, moment by moment, a dict in the protocol's order."""
    if protocol[0] == "clocked":
        return clocked_levels(protocol, groups, half)
    rows = {name: [] for name in protocol[1:3] if isinstance(name, str)}

    def lay(many, *levels):
        for row, level in zip(rows.values(), levels):
            row.extend([level] * many)

    if protocol[0] == "framed":
        _, _, long, bits, check, stops = protocol
        lay(half, 1)
        for group in groups:
            for number in group:
                text = format(number, f"0{bits}b")
                if check != "none":
                    text = str((text.count("1") + (check == "odd")) % 2) + text
                for sign in reversed("1" * stops + text + "0"):
                    lay(long, int(sign))
            lay(half, 1)
        return rows
    lay(half, 1, 1)
    for group in groups:
        lay(half, 1, 0)
        for number, answered in group:
            for sign in format(number, "08b") + ("0" if answered else "1"):
                lay(half, 0, int(sign))
                lay(half, 1, int(sign))
        lay(half, 0, 0)
        lay(half, 1, 0)
        lay(half, 1, 1)
    return rows


def clocked_levels(protocol, groups, half):
    _, clock, edge, data, gate, bits, first = protocol
    rest = 0 if edge == "rise" else 1
    rows = {clock: [], data: [], gate: []}

    def lay(*levels):
        for name, level in zip((clock, data, gate), levels):
            rows[name].extend([level] * half)

    lay(rest, 0, 1)
    for group in groups:
        for number in group:
            text = format(number, f"0{bits}b")
            for sign in text if first == "high" else reversed(text):
                lay(rest, int(sign), 0)
                lay(1 - rest, int(sign), 0)
        lay(rest, 0, 0)
        lay(rest, 0, 1)
    return {name: row for name, row in rows.items() if name}


def some_groups(chance, protocol, sizes):
    """Groups by chance of so many numbers each."""
    if protocol[0] == "twowire":
        return [[(chance.randrange(256), chance.random() < 0.5) for _ in range(size)] for size in sizes]
    bits = protocol[5] if protocol[0] == "clocked" else protocol[3]
    return [[chance.choice((0, 2 ** bits - 1, chance.randrange(2 ** bits))) for _ in range(size)] for size in sizes]


def kinds_of(protocol, groups):
    """The kinds and numbers that are read of what is made of groups."""
    if protocol[0] != "twowire":
        return [("word", number) for group in groups for number in group]
    kinds = []
    for group in groups:
        kinds += [("start", "")] + [("word" if answered else "mute", number) for number, answered in group] + [("stop", "")]
    return kinds


def as_tuples(groups):
    return tuple(tuple(group) for group in groups)


class TestMade(Refusals, unittest.TestCase):
    def test_clocked_run_by_run(self):
        self.assertEqual(show_catch(made(CLOCKED, [[5, 1]], half=10)),
                         "c 0x20 1x10 0x10 1x10 0x10 1x10 0x10 1x10 0x10 1x10 0x10 1x10 0x20\n"
                         "d 0x10 1x20 0x20 1x20 0x40 1x20 0x20\n"
                         "g 1x10 0x130 1x10")
        low = ("clocked", "c", "fall", "d", "", 3, "low")
        self.assertEqual(show_catch(made(low, [[4]], half=1)), "c 1x2 0x1 1x1 0x1 1x1 0x1 1x2\nd 0x5 1x2 0x2")

    def test_framed_run_by_run(self):
        self.assertEqual(made(FRAMED, [[2, 1]], half=5),
                         (("d", ((1, 5), (0, 6), (1, 6), (0, 3), (1, 3), (0, 3), (1, 8))),))
        self.assertEqual(made(("framed", "d", 2, 3, "even", 2), [[1]], half=1),
                         (("d", ((1, 1), (0, 2), (1, 2), (0, 4), (1, 7))),))
        self.assertEqual(made(("framed", "d", 2, 3, "odd", 2), [[1]], half=1),
                         (("d", ((1, 1), (0, 2), (1, 2), (0, 6), (1, 5))),))

    def test_twowire_run_by_run(self):
        self.assertEqual(show_catch(made(TWOWIRE, [[(0b10100011, True)]], half=1)),
                         "c 1x2" + " 0x1 1x1" * 9 + " 0x1 1x2\n"
                         "d 1x1 0x1 1x2 0x2 1x2 0x6 1x4 0x4 1x1")
        self.assertEqual(show_catch(made(TWOWIRE, [[(255, False)], []], half=3)),
                         "c 1x6" + " 0x3 1x3" * 9 + " 0x3 1x9 0x3 1x6\nd 1x3 0x3 1x54 0x6 1x3 0x9 1x3")

    def test_without_groups_and_numbers(self):
        self.assertEqual(show_catch(made(CLOCKED, [])), "c 0x2\nd 0x2\ng 1x2")
        self.assertEqual(show_catch(made(("clocked", "c", "fall", "d", "", 1, "low"), ())), "c 1x2\nd 0x2")
        self.assertEqual(show_catch(made(FRAMED, [])), "d 1x2")
        self.assertEqual(show_catch(made(TWOWIRE, ())), "c 1x2\nd 1x2")
        self.assertEqual(show_catch(made(CLOCKED, [[], []], half=1)), "c 0x5\nd 0x5\ng 1x1 0x1 1x1 0x1 1x1")
        self.assertEqual(show_catch(made(FRAMED, [(), ()], half=4)), "d 1x12")
        self.assertEqual(show_catch(made(TWOWIRE, ([],), half=1)), "c 1x2 0x1 1x2\nd 1x1 0x3 1x1")

    def test_moment_by_moment(self):
        chance = random.Random(16)
        for protocol in FORMS:
            for sizes in ((), (0,), (1,), (0, 2, 0), (3, 1), (1,) * 12, (0,) * 12, (60,)):
                half = chance.choice((1, 2, 5))
                groups = some_groups(chance, protocol, sizes)
                want = tuple((name, line_of(levels)) for name, levels in slow_levels(protocol, groups, half).items())
                catch = made(protocol, groups, half=half)
                self.assertEqual(catch, want)
                self.assertIs(look_catch(catch), True)

    def test_half_left_out(self):
        self.assertEqual(HALF, 2)
        for protocol in FORMS:
            groups = some_groups(random.Random(160), protocol, (2, 0, 1))
            self.assertEqual(made(protocol, groups), made(protocol, groups, half=2))
            self.assertNotEqual(made(protocol, groups), made(protocol, groups, half=3))

    def test_one_level_up_to_the_most_that_fits(self):
        for half in (1, BILLION // 3, BILLION):
            self.assertEqual(made(FRAMED, [], half=half), (("d", ((1, half),)),))
        half = BILLION // 5
        self.assertEqual(made(CLOCKED, [[], []], half=half)[2], ("g", tuple((at % 2, half) for at in (1, 2, 3, 4, 5))))
        catch = made(TWOWIRE, [[(170, True)]], half=BILLION // 23)
        self.assertEqual([item[:2] for item in read_words(catch, TWOWIRE)], kinds_of(TWOWIRE, [[(170, True)]]))

    def test_lists_and_tuples_stay(self):
        chance = random.Random(161)
        for protocol in FORMS:
            groups = some_groups(chance, protocol, (2, 0, 3))
            kept = [list(group) for group in groups]
            want = made(protocol, groups)
            self.assertEqual(groups, kept)
            for other in (as_tuples(groups), list(as_tuples(groups)), tuple(groups)):
                self.assertEqual(made(protocol, other), want)
        self.assertEqual(made(TWOWIRE, [[[7, True], (8, False)]]), made(TWOWIRE, [[(7, True), (8, False)]]))

    def test_numbers_beyond(self):
        chance = random.Random(162)
        for protocol in FORMS:
            beyond = 256 if protocol[0] == "twowire" else 32
            for _ in range(30):
                sizes = [chance.randint(0, 4) for _ in range(chance.randint(1, 12))] + [1]
                groups = some_groups(chance, protocol, sizes)
                places = [(at, k) for at, group in enumerate(groups) for k in range(len(group))]
                wrong = sorted(chance.sample(places, min(len(places), chance.randint(1, 3))))
                for at, k in wrong:
                    number = chance.choice((beyond, beyond + 1, 65535, BILLION, 10 ** 30))
                    groups[at][k] = (number, True) if protocol[0] == "twowire" else number
                fields = {"group": wrong[0][0], "at": wrong[0][1]}
                self.refused(NoNumber, fields, made, protocol, groups)
                self.refused(NoNumber, fields, made, protocol, as_tuples(groups), half=9)

    def test_most_of_each_many_bits(self):
        for bits in range(1, 17):
            for protocol in (("clocked", "c", "rise", "d", "", bits, "low"), ("framed", "d", 2, bits, "odd", 1)):
                numbers = [2 ** bits - 1, 0]
                items = read_words(made(protocol, [numbers]), protocol)
                self.assertEqual([item[1] for item in items], numbers)
                self.refused(NoNumber, {"group": 0, "at": 1}, made, protocol, [[0, 2 ** bits]])


class TestReadAgain(Refusals, unittest.TestCase):
    def test_just_these_words(self):
        chance = random.Random(17)
        for protocol in FORMS:
            for _ in range(12):
                groups = some_groups(chance, protocol, [chance.randint(0, 5) for _ in range(chance.randint(0, 6))])
                catch = made(protocol, groups, half=chance.randint(1, 9))
                self.assertEqual([item[:2] for item in read_words(catch, protocol)], kinds_of(protocol, groups))

    def test_two_catches_one_behind_the_other(self):
        chance = random.Random(170)
        for protocol in FORMS:
            one = some_groups(chance, protocol, (2, 0, 1))
            other = some_groups(chance, protocol, (0, 3))
            catch = put_behind(made(protocol, one, half=3), made(protocol, other, half=1))
            self.assertEqual([item[:2] for item in read_words(catch, protocol)], kinds_of(protocol, one + other))

    def test_sixty_numbers_quickly(self):
        chance = random.Random(171)
        for protocol in FORMS:
            groups = some_groups(chance, protocol, (60,) * 12)
            catch = self.quickly(made, protocol, groups)
            self.assertEqual([item[:2] for item in self.quickly(read_words, catch, protocol)], kinds_of(protocol, groups))

    def test_each_word_cut_out(self):
        chance = random.Random(172)
        cut = 0
        catches = [(made(protocol, some_groups(chance, protocol, (3, 1)), half=3), protocol)
                   for protocol in FORMS if protocol[0] != "twowire"]
        for _, longest in itertools.product(range(80), (1, 2, 5)):
            protocol = some_protocol(chance, "cdg")
            if protocol[0] != "twowire":
                catches.append((some_catch(chance, "cdg", 80, longest), protocol))
        for catch, protocol in catches:
            for item in read_words(catch, protocol):
                if item[0] == "word":
                    begin = item[2] - 1
                    piece = cut_out(catch, item)
                    moved = tuple((name, moment - begin) for name, moment in item[4])
                    self.assertEqual(read_words(piece, protocol), (("word", item[1], 1, item[3] - begin, moved),))
                    for (name, line), (same, whole) in zip(piece, catch):
                        self.assertEqual((name, levels_of(line)), (same, levels_of(whole)[begin:item[3]]))
                    cut += 1
        self.assertGreater(cut, 500)


if __name__ == "__main__":
    unittest.main()
