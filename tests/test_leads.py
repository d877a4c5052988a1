"""Points 33 and 34: from items to their places and back, and the lines made again."""

import random
import unittest

from tests.helper import BILLION, Refusals, some_catch
from tests.stacking import some_stack, some_stacked_catch
from tests.wishing import some_protocol
from wirelooker.catches import cut, look_catch, moments_of, put_behind
from wirelooker.errors import NoItem
from wirelooker.leads import covering, made_again, owner_of, places_of
from wirelooker.making import HALF, made
from wirelooker.packets import numbers_of
from wirelooker.reading import read_words
from wirelooker.stacks import read_stack, settled

FRAMED = ("framed", "d", 4, 8, "none", 1)
TWOWIRE = ("twowire", "c", "d")
PACKETS = ("packets", 7, 255, "sum")
TALKS = ("talks",)


def slow_places(reading, layer, number):
    """The places of an item, layer by layer, in any order."""
    item = reading[layer][number]
    if layer == 0:
        return set(item[4])
    return {place for part in item[4] for place in slow_places(reading, layer - 1, part)}


def some_reading(chance):
    """A reading by chance and its stack, whole or what is settled."""
    stack = some_stack(chance)
    catch = some_stacked_catch(chance, stack)
    return chance.choice((read_stack, settled))(catch, stack), stack


def what_is_said(items):
    """The kinds and whats of items."""
    return [item[:2] for item in items]


def words_of(items):
    return [item[:2] for item in items if item[0] in ("word", "mute")]


class TestLeads(Refusals, unittest.TestCase):
    def leads(self, reading):
        """Each item's places and each place's item, in each layer."""
        for layer, items in enumerate(reading):
            there = {}
            for number in range(len(items)):
                places = places_of(reading, layer, number)
                self.assertEqual(set(places), slow_places(reading, layer, number))
                self.assertEqual(len(places), len(set(places)))
                self.assertEqual(list(places), sorted(places, key=lambda place: place[1]))
                for place in places:
                    self.assertNotIn(place, there)
                    there[place] = number
            for (name, moment), number in there.items():
                self.assertEqual(owner_of(reading, layer, name, moment), number)
            yield layer, there

    def test_told_ones(self):
        catch = made(FRAMED, [numbers_of([(5, 30)], 7), numbers_of([(133, 40)], 7)])
        reading = read_stack(catch, (FRAMED, PACKETS, TALKS))
        self.assertEqual(places_of(reading, 0, 0), tuple(("d", 4 + 4 * at) for at in range(10)))
        self.assertEqual(places_of(reading, 0, 0), reading[0][0][4])
        self.assertEqual(places_of(reading, 1, 1), tuple(place for item in reading[0][5:] for place in item[4]))
        self.assertEqual(places_of(reading=reading, layer=2, number=0),
                         tuple(place for item in reading[0] for place in item[4]))
        self.assertEqual(owner_of(reading, 0, "d", 44), 1)
        self.assertEqual(owner_of(reading, layer=1, name="d", moment=44), 0)
        self.assertEqual(owner_of(reading=reading, layer=2, name="d", moment=44), 0)
        self.assertIsNone(owner_of(reading, 0, "d", 45))
        self.assertIsNone(owner_of(reading, 2, "d", 3))
        self.assertIsNone(owner_of(reading, 1, "c", 44))
        self.assertEqual(covering(reading, 0, 44), (1,))
        self.assertEqual(covering(reading=reading, layer=1, moment=44), (0,))

    def test_each_item_and_each_place(self):
        chance = random.Random(33)
        for _ in range(150):
            reading, _ = some_reading(chance)
            for layer, there in self.leads(reading):
                last = max([moment for _, moment in there], default=0)
                for moment in (*range(-1, min(last + 3, 60)), BILLION):
                    for name in ("c", "d", "g", "other"):
                        if (name, moment) not in there:
                            self.assertIsNone(owner_of(reading, layer, name, moment))

    def test_words_of_noise(self):
        chance = random.Random(330)
        for _ in range(200):
            reading = (read_words(some_catch(chance, "cdg", 60, 3), some_protocol(chance, "cdg")),)
            for _ in self.leads(reading):
                pass

    def test_no_item(self):
        chance = random.Random(331)
        for _ in range(40):
            reading, _ = some_reading(chance)
            layers = (*range(-6, 7), BILLION, -BILLION, 10 ** 30, -10 ** 30)
            for layer in layers:
                many = len(reading[layer]) if 0 <= layer < len(reading) else 0
                for number in (-10 ** 30, -BILLION, -many - 1, -many, -2, -1, many, many + 1, BILLION, 10 ** 30):
                    if not 0 <= number < many:
                        self.refused(NoItem, {"layer": layer, "number": number}, places_of, reading, layer, number)
        self.refused(NoItem, {"layer": 0, "number": 0}, places_of, ((),), 0, 0)
        with self.assertRaises(IndexError):
            places_of(((), ()), 1, 0)

    def test_covering(self):
        reading = ((("word", 1, 2, 5, (("d", 2),)), ("word", 2, 5, 9, (("d", 5),))),
                   (("packet", (), 3, 9, (0, 1)), ("open", (), 0, 4, (0,)), ("x", (), 4, 5, (0,))))
        self.assertEqual([covering(reading, 0, moment) for moment in (0, 1, 2, 4, 5, 8, 9, BILLION)],
                         [(), (), (0,), (0,), (1,), (1,), (), ()])
        self.assertEqual([covering(reading, 1, moment) for moment in (0, 2, 3, 4, 5, 8, 9)],
                         [(1,), (1,), (0, 1), (0, 2), (0,), (0,), ()])
        self.assertEqual(covering(((),), 0, 0), ())

    def test_covering_by_chance(self):
        chance = random.Random(332)
        for _ in range(100):
            reading, _ = some_reading(chance)
            for layer, items in enumerate(reading):
                for item in items:
                    for moment in (item[2] - 1, item[2], item[3] - 1, item[3]):
                        told = tuple(at for at, other in enumerate(items) if moment in range(other[2], other[3]))
                        self.assertEqual(covering(reading, layer, moment), told)

    def test_some_hundred_items(self):
        bodies = [(at % 128 + 128 * (at // 2 % 2), at % 256) for at in range(130)]
        catch = made(FRAMED, [numbers_of(bodies, 7)])
        reading = read_stack(catch, (FRAMED, PACKETS, TALKS))
        self.assertEqual([len(items) for items in reading[:2]], [650, 130])

        def all_ways():
            for layer, items in enumerate(reading):
                for number in range(len(items)):
                    for name, moment in places_of(reading, layer, number):
                        self.assertEqual(owner_of(reading, layer, name, moment), number)
                    self.assertIn(number, covering(reading, layer, items[number][2]))
        self.quickly(all_ways)


class TestMadeAgain(unittest.TestCase):
    def again(self, catch, stack, half=HALF):
        reading = read_stack(catch, stack)
        told = made_again(reading, stack, half=half)
        self.assertIs(look_catch(told), True)
        read = read_stack(told, stack)
        self.assertEqual(words_of(read[0]), words_of(reading[0]), (catch, stack))
        if not any(item[0] == "torn" for items in reading for item in items):
            self.assertEqual([what_is_said(items) for items in read[1:]], [what_is_said(items) for items in reading[1:]])
        self.assertEqual(made_again(read, stack, half=half), told)
        firm = settled(catch, stack)
        self.assertEqual(words_of(settled(made_again(firm, stack, half=half), stack)[0]), words_of(firm[0]))
        return told

    def test_told_ones(self):
        framed = ("framed", "d", 3, 2, "none", 1)
        catch = (("x", ((0, 34),)), ("d", ((1, 4), (0, 6), (1, 9), (0, 3), (1, 12))))
        self.assertEqual(made_again(read_stack(catch, (framed,)), (framed,)), made(framed, [[2, 3]]))
        self.assertEqual(made_again(stack=(framed,), reading=read_stack(catch, (framed,)), half=9), made(framed, [[2, 3]], half=9))
        clocked = ("clocked", "c", "rise", "d", "g", 1, "high")
        catch = (("c", ((0, 1), (1, 1), (0, 1), (1, 1), (0, 1), (1, 1))), ("d", ((0, 3), (1, 3))),
                 ("g", ((0, 2), (1, 1), (0, 3))))
        self.assertEqual(made_again(read_stack(catch, (clocked,)), (clocked,)), made(clocked, [[0, 1, 1]]))

    def test_without_words(self):
        for protocol in (("clocked", "c", "fall", "d", "g", 4, "low"), ("clocked", "c", "rise", "d", "", 4, "low"), FRAMED):
            for half in (1, 2, 7):
                nothing = tuple((name, ()) for name in "cdg")
                self.assertEqual(self.again(nothing, (protocol,), half), made(protocol, [[]], half=half))
        self.assertEqual(self.again((("c", ()), ("d", ())), (TWOWIRE,)), made(TWOWIRE, []))
        self.assertEqual(self.again((("c", ()), ("d", ())), (TWOWIRE, ("calls",)), 5), (("c", ((1, 5),)), ("d", ((1, 5),))))

    def test_starts_without_bytes(self):
        groups = [[], [(3, True), (255, False)], [], []]
        catch = made(TWOWIRE, groups)
        self.assertEqual(self.again(catch, (TWOWIRE, ("calls",))), catch)
        self.assertEqual(self.again(made(TWOWIRE, [[]], half=4), (TWOWIRE,), 4), made(TWOWIRE, [[]], half=4))

    def test_starts_behind_starts(self):
        # A start, a word, a start, a word, and a stop.
        items = (("start", ""), ("word", 160), ("start", ""), ("mute", 9), ("stop", ""), ("start", ""), ("start", ""), ("stop", ""))
        reading = (tuple((*item, at, at + 1, (("d", at),)) for at, item in enumerate(items)),)
        self.assertEqual(made_again(reading, (TWOWIRE,)), made(TWOWIRE, [[(160, True)], [(9, False)], [], []]))

    def test_left_out_is_two(self):
        for stack in ((TWOWIRE, ("calls",)), (FRAMED, PACKETS, TALKS)):
            groups = [[(9, True)]] if stack[0] == TWOWIRE else [[9]]
            reading = read_stack(made(stack[0], groups, half=5), stack)
            self.assertEqual(made_again(reading, stack), made(stack[0], groups, half=2))
            self.assertNotEqual(made_again(reading, stack, half=1), made(stack[0], groups, half=2))

    def test_by_chance(self):
        chance = random.Random(34)
        for _ in range(250):
            stack = some_stack(chance)
            self.again(some_stacked_catch(chance, stack), stack, chance.choice((1, 2, 3)))

    def test_without_torn_ones(self):
        chance = random.Random(340)
        above = 0
        for _ in range(150):
            stack = some_stack(chance)
            bodies = [(chance.choice((1, 129)), chance.randrange(256))[:chance.randrange(3)] for _ in range(4)]
            _, mark, most, check = stack[1] if len(stack) > 1 and len(stack[1]) == 4 else PACKETS
            numbers = list(numbers_of(bodies, mark, most=max(most, 2), check=check))
            groups = [[(number, True) for number in numbers] if stack[0] == TWOWIRE else numbers]
            catch = made(stack[0], groups)
            reading = read_stack(catch, stack)
            if not any(item[0] == "torn" for items in reading for item in items):
                above += len(reading) > 1 and len(reading[-1]) > 0
            self.again(catch, stack)
        self.assertGreater(above, 50)

    def test_noise(self):
        chance = random.Random(341)
        for _ in range(200):
            protocol = some_protocol(chance, "cdg")
            self.again(some_catch(chance, "cdg", 60, 3), (protocol,))
        for _ in range(60):
            self.again(put_behind(some_catch(chance, "cd", 40, 2), cut(made(TWOWIRE, [[(1, True)]]), 0, chance.randint(0, 40))),
                       (TWOWIRE, ("calls",)))

    def test_what_is_handed_in_stays(self):
        stack = (TWOWIRE, ("calls",))
        catch = made(TWOWIRE, [[(9, True)], []])
        reading = read_stack(catch, stack)
        kept = str(reading)
        made_again(reading, stack)
        self.assertEqual(str(reading), kept)
        self.assertEqual(moments_of(catch), moments_of(made_again(reading, stack)))


if __name__ == "__main__":
    unittest.main()
