"""Points 11 and 14: words by two wires, against levels gone through moment by moment."""

import itertools
import random
import unittest

from tests.helper import BILLION, Refusals, catch_of, levels_of, line_of, some_catch
from wirelooker.twowire import twowire_items

PROTOCOL = ("twowire", "c", "d")


def slow_items(catch, protocol):
    """The items, moment by moment."""
    _, clock, data = protocol
    rows = {name: levels_of(line) for name, line in catch}
    items = []
    taken = None
    many = len(rows[data])
    for t in range(1, many):
        clocks = (rows[clock][t - 1], rows[clock][t])
        datas = (rows[data][t - 1], rows[data][t])
        places = tuple((data, moment) for moment in taken or ())
        if clocks == (1, 1) and datas in ((1, 0), (0, 1)):
            if datas == (0, 1) and taken is None:
                continue
            if len(places) > 1:
                items.append(("torn", "bits", places[0][1], places[-1][1] + 1, places))
            items.append(("start" if datas == (1, 0) else "stop", "", t, t + 1, ((data, t),)))
            taken = [] if datas == (1, 0) else None
        elif clocks == (0, 1) and taken is not None:
            taken.append(t)
            if len(taken) == 9:
                text = "".join(str(rows[data][moment]) for moment in taken)
                kind = "word" if text[8] == "0" else "mute"
                items.append((kind, int(text[:8], 2), taken[0], t + 1, tuple((data, moment) for moment in taken)))
                taken = []
    if taken:
        items.append(("torn", "end", taken[0], taken[-1] + 1, tuple((data, moment) for moment in taken)))
    return tuple(items)


class Talk:
    """Levels of both wires, laid by what is said on them."""

    def __init__(self, pause=1):
        self.pause = pause
        self.clock = []
        self.data = []
        self.lay(1, 1)

    def lay(self, clock, data):
        self.clock += [clock] * self.pause
        self.data += [data] * self.pause

    def start(self):
        self.lay(1, 1)
        self.lay(1, 0)

    def bits(self, text):
        for sign in text:
            self.lay(0, int(sign))
            self.lay(1, int(sign))

    def again(self):
        self.lay(0, 1)
        self.start()

    def stop(self):
        self.lay(0, 0)
        self.lay(1, 0)
        self.lay(1, 1)

    def catch(self):
        return catch_of({"c": self.clock, "d": self.data})

    def kinds(self):
        return [item[:2] for item in twowire_items(self.catch(), PROTOCOL)]


class TestTwoWire(Refusals, unittest.TestCase):
    def test_told_ones(self):
        talk = Talk()
        talk.start()
        talk.bits("101000110")
        talk.stop()
        items = twowire_items(talk.catch(), PROTOCOL)
        # Laid one moment each: both high at 0 and 1, data falls at 2, the clock rises at 4, 6 and so on to 20.
        places = tuple(("d", moment) for moment in range(4, 21, 2))
        self.assertEqual(items, (("start", "", 2, 3, (("d", 2),)), ("word", 0b10100011, 4, 21, places),
                                 ("stop", "", 23, 24, (("d", 23),))))

    def test_words_and_mutes(self):
        talk = Talk(3)
        talk.start()
        talk.bits("000000010" + "100000001" + "111111110" + "000000001")
        talk.stop()
        self.assertEqual(talk.kinds(), [("start", ""), ("word", 1), ("mute", 128), ("word", 255), ("mute", 0), ("stop", "")])

    def test_start_again(self):
        talk = Talk()
        talk.start()
        talk.bits("110000110")
        talk.again()
        talk.bits("000011111")
        talk.stop()
        self.assertEqual(talk.kinds(), [("start", ""), ("word", 195), ("start", ""), ("mute", 15), ("stop", "")])

    def test_starts_and_stops_amid_bits(self):
        for bits, torn in (("", []), ("1", [("torn", "bits")]), ("0101", [("torn", "bits")]),
                           ("0000000", [("torn", "bits")])):
            talk = Talk(2)
            talk.start()
            talk.bits(bits)
            talk.again()
            talk.bits(bits)
            talk.stop()
            self.assertEqual(talk.kinds(), [("start", "")] + torn + [("start", "")] + torn + [("stop", "")])

    def test_torn_by_bits_has_the_bits_left_over(self):
        talk = Talk()
        talk.start()
        talk.bits("000000000" + "11")
        talk.stop()
        items = twowire_items(talk.catch(), PROTOCOL)
        self.assertEqual(items[2], ("torn", "bits", 22, 27, (("d", 22), ("d", 24), ("d", 26))))
        self.assertEqual(items[3][:2], ("stop", ""))

    def test_single_bit_is_passed_over(self):
        catch = catch_of({"c": [1, 1, 0, 1, 1], "d": [1, 0, 0, 0, 1]})
        self.assertEqual([item[0] for item in twowire_items(catch, PROTOCOL)], ["start", "stop"])

    def test_torn_by_end(self):
        for many in range(1, 9):
            talk = Talk()
            talk.start()
            talk.bits("1" * many)
            (start, torn) = twowire_items(talk.catch(), PROTOCOL)
            places = tuple(("d", 4 + 2 * at) for at in range(many))
            self.assertEqual(torn, ("torn", "end", 4, 2 * many + 3, places))
        talk = Talk()
        talk.start()
        talk.bits("000000000")
        self.assertEqual(talk.kinds(), [("start", ""), ("word", 0)])

    def test_passed_over_without_a_start(self):
        talk = Talk()
        talk.clock, talk.data = [0], [0]
        talk.bits("1010101010")
        talk.stop()
        self.assertEqual(talk.kinds(), [])
        talk.start()
        talk.stop()
        talk.bits("1111111111")
        talk.stop()
        self.assertEqual(talk.kinds(), [("start", ""), ("stop", "")])

    def test_clock_that_changes_with_data(self):
        for clocks in ((0, 1), (1, 0), (0, 0)):
            for datas in ((0, 1), (1, 0)):
                catch = catch_of({"c": [*clocks], "d": [*datas]})
                self.assertEqual(twowire_items(catch, PROTOCOL), ())
        # Once started, such a rise of the clock is a bit, of the level behind it.
        catch = catch_of({"c": [1, 1, 0, 1], "d": [1, 0, 0, 1]})
        self.assertEqual([item[:2] for item in twowire_items(catch, PROTOCOL)], [("start", ""), ("torn", "end")])

    def test_without_moments(self):
        self.assertEqual(twowire_items((("c", ()), ("d", ())), PROTOCOL), ())
        self.assertEqual(twowire_items((("c", ((1, 1),)), ("d", ((0, 1),))), PROTOCOL), ())

    def test_moment_by_moment(self):
        chance = random.Random(14)
        seen = set()
        for _ in range(1500):
            many = chance.randint(0, 150)
            catch = some_catch(chance, "c", many, chance.choice((1, 2, 3))) + some_catch(chance, "d", many, chance.choice(
                (3, 12, 60)))
            items = twowire_items(catch, PROTOCOL)
            self.assertEqual(items, slow_items(catch, PROTOCOL))
            self.assertIs(type(items), tuple)
            seen.update(item[:2] if item[0] == "torn" else item[:1] for item in items)
        self.assertEqual(seen, {("torn", "bits"), ("torn", "end"), ("word",), ("mute",), ("start",), ("stop",)})

    def test_talks_by_chance(self):
        chance = random.Random(140)
        for _ in range(200):
            talk = Talk(chance.randint(1, 3))
            for _ in range(chance.randint(0, 8)):
                step = chance.randrange(5)
                if step == 0:
                    talk.start()
                elif step == 1:
                    talk.again()
                elif step == 2:
                    talk.stop()
                else:
                    talk.bits("".join(chance.choice("01") for _ in range(chance.choice((1, 2, 9, 9, 9, 18, 20)))))
            catch = talk.catch()
            self.assertEqual(twowire_items(catch, PROTOCOL), slow_items(catch, PROTOCOL))

    def test_lines_more_in_any_order(self):
        catch = some_catch(random.Random(142), ("c", "x", "y"), 200, 2) + some_catch(random.Random(143), "d", 200, 9)
        want = twowire_items((catch[0], catch[3]), PROTOCOL)
        self.assertGreater(len(want), 5)
        for order in itertools.permutations(catch):
            self.assertEqual(twowire_items(order, PROTOCOL), want)

    def test_runs_of_great_length_quickly(self):
        talk = Talk()
        talk.start()
        talk.bits("110011001" + "000000010")
        talk.stop()
        times = BILLION // len(talk.clock)
        catch = tuple((name, tuple((level, long * times) for level, long in line)) for name, line in talk.catch())
        items = self.quickly(twowire_items, catch, PROTOCOL)
        self.assertEqual([item[:2] for item in items], [("start", ""), ("mute", 204), ("word", 1), ("stop", "")])
        self.assertEqual(items[0][2], 2 * times)

    def test_very_many_runs_quickly(self):
        talk = Talk()
        for _ in range(1000):
            talk.start()
            talk.bits("010101010" * 3)
            talk.stop()
        catch = (("c", line_of(talk.clock)), ("d", line_of(talk.data)))
        self.assertEqual(len(self.quickly(twowire_items, catch, PROTOCOL)), 5000)


if __name__ == "__main__":
    unittest.main()
