"""Points 11 and 13: words in frames, against levels gone through moment by moment."""

import itertools
import random
import unittest

from tests.helper import BILLION, Refusals, catch_of, levels_of, line_of, some_catch, some_levels
from wirelooker.framed import framed_items


def slow_items(catch, protocol):
    """The items, moment by moment: idle till a fall, then counted on to each sample."""
    _, data, long, bits, check, stops = protocol
    levels = levels_of(dict(catch)[data])
    kinds = ["start"] + ["bit"] * bits + ["check"] * (check != "none") + ["stop"] * stops
    items = []
    start = None
    for t in range(1, len(levels)):
        if start is None:
            if levels[t - 1] == 1 and levels[t] == 0:
                start, taken = t, []
                due = long // 2
        if start is not None:
            if due == 0:
                taken.append((t, kinds[len(taken)], levels[t]))
                due = long
                told = verdict(taken, kinds, check)
                if told is not None:
                    places = tuple((data, moment) for moment, _, _ in taken)
                    items.append((told[0], told[1], start, t + 1, places))
                    start = None
            due -= 1
    if start is not None:
        items.append(("torn", "end", start, len(levels), tuple((data, moment) for moment, _, _ in taken)))
    return tuple(items)


def verdict(taken, kinds, check):
    """What the samples so far tell, None while there is more to come."""
    if taken[-1][1:] == ("start", 1):
        return ("torn", "start")
    if len(taken) < len(kinds):
        return None
    if any(kind == "stop" and level == 0 for _, kind, level in taken):
        return ("torn", "stop")
    ones = sum(level for _, kind, level in taken if kind in ("bit", "check"))
    if check == "even" and ones % 2 == 1 or check == "odd" and ones % 2 == 0:
        return ("torn", "check")
    bits = [level for _, kind, level in taken if kind == "bit"]
    return ("word", sum(2 ** at for at, level in enumerate(bits) if level))


def frame(number, protocol, wrong=""):
    """The levels of one frame, perhaps with a thing wrong."""
    _, _, long, bits, check, stops = protocol
    low_first = [number // 2 ** at % 2 for at in range(bits)]
    levels = [0] + low_first
    if check != "none":
        levels.append((sum(low_first) + (check == "odd") + (wrong == "check")) % 2)
    levels += [1] * stops
    if wrong == "stop":
        levels[-1] = 0
    return [level for level in levels for _ in range(long)]


class TestFramed(Refusals, unittest.TestCase):
    def test_told_ones(self):
        protocol = ("framed", "d", 4, 2, "none", 1)
        #                      0    5    10   15   20
        catch = catch_of({"d": [1] * 3 + [0] * 4 + [0] * 4 + [1] * 4 + [1] * 4 + [1] * 2})
        places = (("d", 5), ("d", 9), ("d", 13), ("d", 17))
        self.assertEqual(framed_items(catch, protocol), (("word", 2, 3, 18, places),))

    def test_lowest_bit_first(self):
        protocol = ("framed", "d", 2, 8, "none", 1)
        catch = catch_of({"d": [1] + frame(0b00000110, protocol)})
        self.assertEqual(framed_items(catch, protocol)[0][:2], ("word", 6))

    def test_torn_by_start(self):
        catch = catch_of({"d": [1, 1, 0, 0, 1, 1, 0, 1, 1]})
        self.assertEqual(framed_items(catch, ("framed", "d", 6, 1, "none", 1)),
                         (("torn", "start", 2, 6, (("d", 5),)), ("torn", "end", 6, 9, ())))

    def test_next_start_behind_that_of_a_torn_one(self):
        # A fall at the very sample of a start would be low there; one right behind it counts.
        catch = catch_of({"d": [1, 0, 1, 0, 0, 1, 1, 1]})
        self.assertEqual(framed_items(catch, ("framed", "d", 2, 1, "none", 1)),
                         (("torn", "start", 1, 3, (("d", 2),)), ("torn", "end", 3, 8, (("d", 4), ("d", 6)))))

    def test_torn_by_end(self):
        protocol = ("framed", "d", 4, 2, "none", 1)
        levels = [1] + frame(3, protocol)
        for many in range(2, 16):
            places = tuple(("d", moment) for moment in (3, 7, 11, 15) if moment < many)
            self.assertEqual(framed_items(catch_of({"d": levels[:many]}), protocol),
                             (("torn", "end", 1, many, places),))
        self.assertEqual(framed_items(catch_of({"d": levels[:16]}), protocol)[0][:4], ("word", 3, 1, 16))

    def test_end_is_the_last_item(self):
        catch = catch_of({"d": [1, 0, 0, 0, 1, 0, 1, 0, 1]})
        self.assertEqual(framed_items(catch, ("framed", "d", 4, 8, "odd", 2)), (("torn", "end", 1, 9, (("d", 3), ("d", 7))),))

    def test_torn_by_stop(self):
        protocol = ("framed", "d", 2, 1, "none", 2)
        for stops, kind in (([1, 1], "word"), ([0, 1], "torn"), ([1, 0], "torn"), ([0, 0], "torn")):
            levels = [1] + [level for level in [0, 1] + stops for _ in range(2)]
            (item,) = framed_items(catch_of({"d": levels}), protocol)
            self.assertEqual(item, (kind, 1 if kind == "word" else "stop", 1, 9, (("d", 2), ("d", 4), ("d", 6), ("d", 8))))

    def test_torn_by_check(self):
        for check, first, second in (("even", "word", "torn"), ("odd", "torn", "word")):
            protocol = ("framed", "d", 2, 3, check, 1)
            for checks, kind in ((0, first), (1, second)):
                levels = [1] + [level for level in (0, 1, 0, 1, checks, 1) for _ in range(2)]
                (item,) = framed_items(catch_of({"d": levels}), protocol)
                self.assertEqual(item[:4], (kind, 5 if kind == "word" else "check", 1, 13))
                self.assertEqual(item[4], tuple(("d", moment) for moment in (2, 4, 6, 8, 10, 12)))

    def test_the_first_that_is_so(self):
        # A low stop and a wrong check: the stop is told.
        levels = [1] + [level for level in (0, 1, 0, 0) for _ in range(2)]
        (item,) = framed_items(catch_of({"d": levels}), ("framed", "d", 2, 1, "even", 1))
        self.assertEqual(item[:2], ("torn", "stop"))
        # The start's sample is high, and the last one is no moment: the start is told.
        (item,) = framed_items(catch_of({"d": [1, 0, 1, 1]}), ("framed", "d", 4, 1, "even", 1))
        self.assertEqual(item, ("torn", "start", 1, 4, (("d", 3),)))

    def test_start_by_a_fall_alone(self):
        protocol = ("framed", "d", 2, 1, "none", 1)
        self.assertEqual(framed_items((("d", ((0, 50),)),), protocol), ())
        self.assertEqual(framed_items((("d", ((1, 50),)),), protocol), ())
        self.assertEqual(framed_items((("d", ()),), protocol), ())
        self.assertEqual(framed_items((("d", ((0, 5), (1, 5))),), protocol), ())

    def test_no_start_at_the_last_sample(self):
        # Low at the stop's sample, where it falls, and no fall behind it: no further start.
        protocol = ("framed", "d", 2, 1, "none", 1)
        levels = [1, 0, 0, 1, 1, 1, 0, 0, 0, 0, 0, 0]
        (item,) = framed_items(catch_of({"d": levels}), protocol)
        self.assertEqual(item[:4], ("torn", "stop", 1, 7))

    def test_frames_right_behind_one_another(self):
        chance = random.Random(131)
        for check, stops, long in itertools.product(("none", "even", "odd"), (1, 2), (2, 3, 8, 9)):
            for bits in range(1, 17):
                protocol = ("framed", "d", long, bits, check, stops)
                numbers = [chance.randrange(2 ** bits) for _ in range(5)]
                levels = [1] * chance.randint(1, 5)
                for number in numbers:
                    levels = levels + frame(number, protocol)
                items = framed_items(catch_of({"d": levels}), protocol)
                self.assertEqual([item[:2] for item in items], [("word", number) for number in numbers])
                self.assertEqual(items, slow_items(catch_of({"d": levels}), protocol))

    def test_moment_by_moment(self):
        chance = random.Random(13)
        seen = set()
        for check, stops, bits in itertools.product(("none", "even", "odd"), (1, 2), range(1, 17)):
            for _ in range(20):
                protocol = ("framed", "d", chance.choice((2, 2, 3, 4, 5, 7)), bits, check, stops)
                levels = some_levels(chance, chance.randint(0, 200), chance.choice((2, 4, 12)))
                catch = catch_of({"d": levels})
                items = framed_items(catch, protocol)
                self.assertEqual(items, slow_items(catch, protocol))
                self.assertIs(type(items), tuple)
                seen.update(item[:2] if item[0] == "torn" else item[:1] for item in items)
        self.assertEqual(seen, {("torn", "start"), ("torn", "end"), ("torn", "stop"), ("torn", "check"), ("word",)})

    def test_frames_with_wrongs_and_pauses(self):
        chance = random.Random(130)
        for _ in range(300):
            protocol = ("framed", "d", chance.randint(2, 9), chance.randint(1, 16), chance.choice(("none", "even", "odd")),
                        chance.randint(1, 2))
            levels = [1] * chance.randint(0, 9)
            for _ in range(4):
                levels += frame(chance.randrange(2 ** protocol[3]), protocol, chance.choice(("", "", "check", "stop")))
                levels += [1] * chance.choice((0, 0, 1, 30))
            catch = catch_of({"d": levels[:chance.randint(1, len(levels))]})
            self.assertEqual(framed_items(catch, protocol), slow_items(catch, protocol))

    def test_lines_more_in_any_order(self):
        catch = some_catch(random.Random(133), ("none", "x", "clock"), 90, 5)
        protocol = ("framed", "none", 4, 2, "none", 1)
        want = framed_items((catch[0],), protocol)
        self.assertGreater(len(want), 2)
        for order in itertools.permutations(catch):
            self.assertEqual(framed_items(order, protocol), want)

    def test_long_pauses_quickly(self):
        protocol = ("framed", "d", 1000000, 3, "odd", 2)
        half = BILLION // 2
        for levels, told in (((0, 1, 0, 1, 1), ("word", 5)), ((0, 1, 0, 0, 1), ("torn", "check")),
                             ((0, 1, 0, 1, 0), ("torn", "check")), ((0, 0, 1, 0, 0), ("word", 2))):
            runs = tuple((level, long * 1000000) for level, long in line_of(levels + (1, 1)))
            line = ((1, half), *runs[:-1], (1, runs[-1][1] + half - 7000000))
            (item,) = self.quickly(framed_items, (("d", line),), protocol)
            self.assertEqual(item[:4], (*told, half, half + 6500001))
            self.assertEqual(item[4], tuple(("d", half + 500000 + at * 1000000) for at in range(7)))

    def test_runs_of_great_length_quickly(self):
        line = tuple((1 - at % 2, 5000000) for at in range(200))
        items = self.quickly(framed_items, (("d", line),), ("framed", "d", 2, 16, "none", 1))
        self.assertEqual([item[:2] for item in items], [("torn", "stop")] * 100)

    def test_very_many_runs_quickly(self):
        protocol = ("framed", "d", 2, 8, "none", 1)
        levels = [1]
        for number in range(256):
            levels += frame(number, protocol)
        line = line_of(levels * 20)
        items = self.quickly(framed_items, (("d", line),), protocol)
        self.assertEqual([item[1] for item in items], list(range(256)) * 20)


if __name__ == "__main__":
    unittest.main()
