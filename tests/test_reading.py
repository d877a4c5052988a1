"""Points 11 to 15: words read from catches by protocols of each form, and whether an item holds."""

import itertools
import random
import unittest

from tests.helper import BILLION, Refusals, catch_of, line_of, some_catch, some_levels
from tests.slow import slow_words
from tests.test_framed import frame
from tests.test_twowire import Talk
from tests.wishing import some_long_line, some_protocol
from wirelooker.catches import cut
from wirelooker.reading import item_holds, read_words

CLOCKED = ("clocked", "c", "rise", "d", "g", 2, "high")
FRAMED = ("framed", "d", 3, 2, "odd", 1)
TWOWIRE = ("twowire", "c", "d")


def unlike(item):
    """Items that are one with a thing otherwise."""
    kind, what, begin, end, places = item
    yield from ((other, what, begin, end, places) for other in ("word", "mute", "torn", "start", "stop", "wo", ""))
    yield from ((kind, other, begin, end, places) for other in ("", "end", "gate", "bits", "check", 0, 1, 99, 10 ** 30))
    if isinstance(what, int):
        yield from ((kind, other, begin, end, places) for other in (what + 1, what - 1, str(what)))
    yield from ((kind, what, begin + by, end, places) for by in (-1, 1, 10 ** 30))
    yield from ((kind, what, begin, end + by, places) for by in (-1, 1, -10 ** 30))
    yield (kind, what, end, begin, places)
    for at, (name, moment) in enumerate(places):
        for other in ((name, moment + 1), (name, moment - 1), ("c", moment), ("", moment)):
            yield (kind, what, begin, end, places[:at] + (other,) + places[at + 1:])
        yield (kind, what, begin, end, places[:at] + places[at + 1:])
        yield (kind, what, begin, end, places[:at] + places[at:at + 1] + places[at:])
    yield (kind, what, begin, end, places + (("d", end),))
    yield (kind, what, begin, end, places[::-1])
    yield (kind, what, begin, end, ())


class TestReading(Refusals, unittest.TestCase):
    def test_told_ones(self):
        catch = catch_of({"c": [0, 1, 0, 1, 1], "d": [0, 1, 1, 0, 0], "g": [0] * 5})
        self.assertEqual(read_words(catch, CLOCKED), (("word", 2, 1, 4, (("d", 1), ("d", 3))),))
        catch = catch_of({"d": [1] + frame(2, FRAMED)})
        self.assertEqual(read_words(catch, FRAMED),
                         (("word", 2, 1, 15, (("d", 2), ("d", 5), ("d", 8), ("d", 11), ("d", 14))),))
        catch = catch_of({"c": [1, 1, 0, 1, 1], "d": [1, 0, 0, 0, 1]})
        self.assertEqual(read_words(catch, TWOWIRE), (("start", "", 1, 2, (("d", 1),)), ("stop", "", 4, 5, (("d", 4),))))

    def test_moment_by_moment(self):
        chance = random.Random(11)
        seen = set()
        for _ in range(1500):
            names = chance.sample(["c", "d", "g", "x", "clock"], chance.randint(3, 5))
            catch = some_catch(chance, names, chance.randint(0, 120), chance.choice((1, 2, 4, 9)))
            protocol = some_protocol(chance, names)
            items = read_words(catch, protocol)
            self.assertEqual(items, slow_words(catch, protocol))
            self.assertIs(type(items), tuple)
            seen.update((protocol[0], item[0]) for item in items)
        self.assertEqual(seen, {(word, kind) for word in ("clocked", "framed", "twowire") for kind in ("word", "torn")}
                         | {("twowire", kind) for kind in ("start", "stop", "mute")})

    def test_lines_more_in_any_order(self):
        chance = random.Random(110)
        catch = some_catch(chance, ("c", "d", "g", "x"), 60, 3)
        for protocol in (CLOCKED, FRAMED, TWOWIRE):
            want = read_words(tuple(pair for pair in catch if pair[0] != "x"), protocol)
            self.assertTrue(want)
            for order in itertools.permutations(catch):
                self.assertEqual(read_words(order, protocol), want)

    def test_no_place_in_two_items(self):
        chance = random.Random(111)
        for _ in range(300):
            catch = some_catch(chance, "cdg", 100, chance.choice((1, 2, 6)))
            items = read_words(catch, some_protocol(chance, "cdg"))
            places = [place for item in items for place in item[4]]
            self.assertEqual(len(places), len(set(places)))
            for _, _, begin, end, places in items:
                self.assertTrue(begin < end)
                self.assertTrue(all(begin <= moment < end for _, moment in places))

    def test_each_moment_slowed_otherwise(self):
        chance = random.Random(112)
        for _ in range(200):
            many = chance.randint(2, 80)
            rows = {name: some_levels(chance, many, chance.choice((1, 2, 5))) for name in "cdg"}
            protocol = chance.choice((CLOCKED, TWOWIRE, ("clocked", "d", "fall", "g", "", 3, "low")))
            longs = [chance.randint(1, BILLION // many) for _ in range(many)]
            begins = [sum(longs[:at]) for at in range(many + 1)]
            slowed = tuple((name, self.runs_of(levels, longs)) for name, levels in rows.items())
            want = []
            for kind, what, begin, _, places in slow_words(catch_of(rows), protocol):
                places = tuple((name, begins[moment]) for name, moment in places)
                want.append((kind, what, begins[begin], places[-1][1] + 1, places))
            self.assertEqual(self.quickly(read_words, slowed, protocol), tuple(want))

    def runs_of(self, levels, longs):
        runs = []
        for level, long in zip(levels, longs):
            if runs and runs[-1][0] == level:
                long += runs.pop()[1]
            runs.append((level, long))
        return tuple(runs)

    def test_frames_slowed(self):
        chance = random.Random(113)
        for check, stops in itertools.product(("none", "even", "odd"), (1, 2)):
            levels = [1, 1]
            short = ("framed", "d", 2, 5, check, stops)
            numbers = [chance.randrange(32) for _ in range(6)]
            for number in numbers:
                levels += frame(number, short) + [1] * chance.randint(0, 3)
            line = tuple((level, long * 500000) for level, long in line_of(levels))
            items = self.quickly(read_words, (("d", line),), ("framed", "d", 1000000, 5, check, stops))
            self.assertEqual([item[:2] for item in items], [("word", number) for number in numbers])

    def test_runs_of_millions_quickly(self):
        chance = random.Random(114)
        for _ in range(30):
            catch = tuple((name, some_long_line(chance, 130)) for name in "cdg")
            for protocol in (CLOCKED, TWOWIRE, ("framed", "d", 1000000, 8, "even", 2), ("framed", "d", 2, 1, "none", 1)):
                self.quickly(read_words, catch, protocol, seconds=2)

    def test_the_first_moments_alone(self):
        chance = random.Random(115)
        for _ in range(60):
            catch = some_catch(chance, "cdg", 60, chance.choice((1, 2, 5)))
            protocol = some_protocol(chance, "cdg")
            items = read_words(catch, protocol)
            for end in range(61):
                ahead = read_words(cut(catch, 0, end), protocol)
                if ahead and ahead[-1][:2] == ("torn", "end"):
                    ahead = ahead[:-1]
                self.assertEqual(ahead, items[:len(ahead)])

    def test_what_was_handed_in_stays(self):
        catch = some_catch(random.Random(116), "cdg", 60, 2)
        same = tuple((name, tuple(tuple(run) for run in line)) for name, line in catch)
        self.assertEqual(read_words(catch, TWOWIRE), read_words(same, ("twowire", "c", "d")))
        self.assertEqual(catch, same)


class TestItemHolds(unittest.TestCase):
    def test_read_ones_and_others(self):
        chance = random.Random(15)
        talk = Talk()
        talk.start()
        talk.bits("10100011" + "0" + "0110")
        talk.stop()
        catches = [talk.catch() + catch_of({"g": [0] * len(talk.clock)})]
        catches += [some_catch(chance, "cdg", 70, longest) for longest in (1, 2, 3, 5)]
        told = 0
        for catch in catches:
            for protocol in (CLOCKED, FRAMED, TWOWIRE, ("clocked", "c", "fall", "d", "", 3, "low")):
                items = slow_words(catch, protocol)
                for item in items:
                    self.assertIs(item_holds(catch, protocol, item), True)
                    for other in unlike(item):
                        self.assertIs(item_holds(catch, protocol, other), other in items, other)
                        told += 1
        self.assertGreater(told, 1000)

    def test_of_another_protocol(self):
        catch = catch_of({"c": [0, 1, 0, 1, 1], "d": [0, 1, 1, 0, 0], "g": [0] * 5})
        (item,) = read_words(catch, CLOCKED)
        self.assertIs(item_holds(catch, CLOCKED, item), True)
        self.assertIs(item_holds(catch, TWOWIRE, item), False)
        self.assertIs(item_holds(cut(catch, 0, 3), CLOCKED, item), False)

    def test_without_items(self):
        catch = (("c", ()), ("d", ()), ("g", ()))
        for protocol in (CLOCKED, FRAMED, TWOWIRE):
            self.assertIs(item_holds(catch, protocol, ("word", 0, 0, 0, ())), False)


if __name__ == "__main__":
    unittest.main()
