"""Points 11 and 12: words by a clock, against levels gone through moment by moment."""

import itertools
import random
import unittest

from tests.helper import BILLION, Refusals, catch_of, levels_of, line_of, long_line, some_catch
from wirelooker.catches import just
from wirelooker.catchtexts import read_catch
from wirelooker.clocked import clocked_items


def number_by(levels, first):
    """The number of bits' levels, each bit by its own weight."""
    weights = [2 ** at for at in range(len(levels))]
    if first == "high":
        weights.reverse()
    return sum(weight for weight, level in zip(weights, levels) if level)


def slow_items(catch, protocol):
    """The items, moment by moment."""
    _, clock, edge, data, gate, bits, first = protocol
    rows = {name: levels_of(line) for name, line in catch}
    many = len(rows[data])
    before, now = (0, 1) if edge == "rise" else (1, 0)
    items = []
    taken = []
    for t in range(many):
        is_open = not gate or rows[gate][t] == 0
        if is_open and t > 0 and (rows[clock][t - 1], rows[clock][t]) == (before, now):
            taken.append(t)
        places = tuple((data, moment) for moment in taken)
        if len(taken) == bits:
            number = number_by([rows[data][moment] for moment in taken], first)
            items.append(("word", number, taken[0], t + 1, places))
            taken = []
        elif taken and t == many - 1:
            items.append(("torn", "end", taken[0], taken[-1] + 1, places))
        elif taken and gate and rows[gate][t + 1] == 1:
            items.append(("torn", "gate", taken[0], taken[-1] + 1, places))
            taken = []
    return tuple(items)


class TestClocked(Refusals, unittest.TestCase):
    def test_told_ones(self):
        #                  0123456789
        levels = {"c": [int(sign) for sign in "0101010101"],
                  "d": [int(sign) for sign in "0111000110"]}
        catch = catch_of(levels)
        self.assertEqual(clocked_items(catch, ("clocked", "c", "rise", "d", "", 2, "high")),
                         (("word", 3, 1, 4, (("d", 1), ("d", 3))), ("word", 1, 5, 8, (("d", 5), ("d", 7))),
                          ("torn", "end", 9, 10, (("d", 9),))))
        self.assertEqual(clocked_items(catch, ("clocked", "c", "rise", "d", "", 2, "low"))[1],
                         ("word", 2, 5, 8, (("d", 5), ("d", 7))))
        self.assertEqual(clocked_items(catch, ("clocked", "c", "fall", "d", "", 4, "high")),
                         (("word", 9, 2, 9, (("d", 2), ("d", 4), ("d", 6), ("d", 8))),))

    def test_gate(self):
        catch = read_catch("c 0x1 1x1 0x1 1x1 0x1 1x1 0x1 1x1 0x1 1x1 0x1 1x1\n"
                           "d 1x12\ng 0x4 1x3 0x5")
        rise = ("clocked", "c", "rise", "d", "g", 2, "high")
        self.assertEqual(clocked_items(catch, rise),
                         (("word", 3, 1, 4, (("d", 1), ("d", 3))), ("word", 3, 7, 10, (("d", 7), ("d", 9))),
                          ("torn", "end", 11, 12, (("d", 11),))))
        three = ("clocked", "c", "rise", "d", "g", 3, "high")
        self.assertEqual(clocked_items(catch, three),
                         (("torn", "gate", 1, 4, (("d", 1), ("d", 3))),
                          ("word", 7, 7, 12, (("d", 7), ("d", 9), ("d", 11)))))

    def test_gate_that_ends_ahead_of_the_end(self):
        catch = read_catch("c 0x1 1x1 0x1 1x1 0x1\nd 1x5\ng 0x4 1x1")
        self.assertEqual(clocked_items(catch, ("clocked", "c", "rise", "d", "g", 3, "low")),
                         (("torn", "gate", 1, 4, (("d", 1), ("d", 3))),))
        catch = read_catch("c 0x1 1x1 0x1 1x1 0x1\nd 1x5\ng 0x5")
        self.assertEqual(clocked_items(catch, ("clocked", "c", "rise", "d", "g", 3, "low")),
                         (("torn", "end", 1, 4, (("d", 1), ("d", 3))),))

    def test_edge_where_the_gate_changes(self):
        one = ("clocked", "c", "rise", "d", "g", 1, "high")
        falls_then = read_catch("c 0x3 1x2\nd 1x5\ng 1x3 0x2")
        self.assertEqual(clocked_items(falls_then, one), (("word", 1, 3, 4, (("d", 3),)),))
        rises_then = read_catch("c 0x3 1x2\nd 1x5\ng 0x3 1x2")
        self.assertEqual(clocked_items(rises_then, one), ())

    def test_no_edge_at_the_first_moment(self):
        for edge, text in (("rise", "c 1x2 0x1\nd 1x3"), ("fall", "c 0x2 1x1\nd 1x3")):
            self.assertEqual(clocked_items(read_catch(text), ("clocked", "c", edge, "d", "", 1, "high")), ())

    def test_without_moments_or_edges(self):
        for gate in ("", "g"):
            protocol = ("clocked", "c", "rise", "d", gate, 1, "high")
            self.assertEqual(clocked_items((("c", ()), ("d", ()), ("g", ())), protocol), ())
            still = tuple((name, ((0, 9),)) for name in "cdg")
            self.assertEqual(clocked_items(still, protocol), ())

    def test_moment_by_moment(self):
        chance = random.Random(12)
        seen = set()
        for edge, gate, first in itertools.product(("rise", "fall"), ("", "g"), ("high", "low")):
            for bits in range(1, 17):
                protocol = ("clocked", "c", edge, "d", gate, bits, first)
                for _ in range(12):
                    many = chance.randint(0, 160)
                    catch = some_catch(chance, "cd", many, 2) + some_catch(chance, "g", many, chance.choice((4, 90)))
                    items = clocked_items(catch, protocol)
                    self.assertEqual(items, slow_items(catch, protocol))
                    self.assertIs(type(items), tuple)
                    seen.update(item[:2] if item[0] == "torn" else (bits, gate) for item in items)
        self.assertLessEqual({("torn", "gate"), ("torn", "end"), (16, ""), (16, "g"), (1, "g")}, seen)

    def test_gate_of_few_moments(self):
        chance = random.Random(121)
        for _ in range(300):
            catch = some_catch(chance, "dcg", chance.randint(0, 40), 3)
            protocol = ("clocked", "c", chance.choice(("rise", "fall")), "d", "g", chance.randint(1, 3), "low")
            self.assertEqual(clocked_items(catch, protocol), slow_items(catch, protocol))

    def test_lines_more_in_any_order(self):
        chance = random.Random(120)
        protocol = ("clocked", "rise", "rise", "data", "high", 3, "high")
        for _ in range(20):
            catch = some_catch(chance, ("data", "rise", "high", "x", "clock"), 80, 3)
            want = clocked_items(just(catch, ("rise", "data", "high")), protocol)
            for order in itertools.permutations(catch):
                self.assertEqual(clocked_items(order, protocol), want)

    def test_no_place_is_in_two_items(self):
        catch = some_catch(random.Random(2), "cdg", 400, 2)
        places = [place for item in clocked_items(catch, ("clocked", "c", "fall", "d", "g", 5, "low")) for place in item[4]]
        self.assertEqual(len(set(places)), len(places))
        self.assertEqual(places, sorted(places))

    def test_runs_of_great_length_quickly(self):
        long = BILLION // 190
        clock = long_line(190, long)
        many = 190 * long
        catch = (("c", clock), ("d", ((0, many // 2), (1, many - many // 2))), ("g", ((0, many),)))
        for gate in ("", "g"):
            items = self.quickly(clocked_items, catch, ("clocked", "c", "rise", "d", gate, 16, "high"))
            self.assertEqual([item[1] for item in items], [0, 0, 1, 65535, 65535, "end"])
            self.assertEqual(items[0][2:4], (long, 31 * long + 1))
            self.assertEqual(len(items[-1][4]), 15)

    def test_very_many_runs_quickly(self):
        many = 40000
        levels = [at % 2 for at in range(2 * many)]
        gate = [at // 4 % 2 for at in range(2 * many)]
        catch = (("c", line_of(levels)), ("d", line_of(gate)), ("g", line_of(gate)))
        items = self.quickly(clocked_items, catch, ("clocked", "c", "rise", "d", "g", 2, "low"))
        self.assertEqual(len(items), many // 4)


if __name__ == "__main__":
    unittest.main()
