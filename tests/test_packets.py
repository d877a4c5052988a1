"""Points 26, 27 and 30: checks, packets read from items, and the numbers and bytes that are made of them."""

import itertools
import random
import unittest

from tests.helper import Refusals, some_catch
from wirelooker.errors import NoNumber, NoText
from wirelooker.making import made
from wirelooker.packets import MOST, check_of, data_of, hex_of, numbers_of, packed, packets_in
from wirelooker.reading import read_words

KINDS = ("sum", "xor", "rest")


def slow_check(kind, numbers):
    """The check, step by step."""
    if kind == "sum":
        total = 0
        for number in numbers:
            total += number
        return total % 256
    if kind == "xor":
        return sum(2 ** bit for bit in range(8) if sum(number // 2 ** bit % 2 for number in numbers) % 2 == 1)
    rest = 0
    for number in numbers:
        rest = sum(2 ** bit for bit in range(8) if rest // 2 ** bit % 2 != number // 2 ** bit % 2)
        for _ in range(8):
            rest = rest * 2
            if rest >= 256:
                rest = rest - 256
                rest = sum(2 ** bit for bit in range(8) if rest // 2 ** bit % 2 != 7 // 2 ** bit % 2)
    return rest


def items_of(things):
    """Items one behind the other: words of numbers, else items of this kind and what."""
    items = []
    for at, thing in enumerate(things):
        kind, what = thing if isinstance(thing, tuple) else ("word", thing)
        items.append((kind, what, 10 * at + 1, 10 * at + 8, (("d", 10 * at + 1), ("d", 10 * at + 7))))
    return tuple(items)


def slow_packets(items, mark, most, check):
    """The packets, item by item as the document goes through them."""
    def told(kind, what, parts):
        return (kind, what, items[parts[0]][2], items[parts[-1]][3], tuple(parts))

    packets = []
    at = 0
    while at < len(items):
        if items[at][0] != "word" or items[at][1] != mark:
            at += 1
            continue
        parts, numbers, found = [at], [], None
        while found is None:
            part = parts[-1] + 1
            if part == len(items):
                return tuple(packets + [told("torn", "end", parts)])
            kind, number = items[part][:2]
            parts.append(part)
            if kind != "word" or number > 255:
                found = told("torn", "word", [at])
            elif numbers and len(numbers) == numbers[0] + 1:
                good = number == slow_check(check, numbers)
                found = told("packet", tuple(numbers[1:]), parts) if good else told("torn", "check", [at])
            elif not numbers and number > most:
                found = told("torn", "long", [at])
            else:
                numbers.append(number)
        packets.append(found)
        at = found[4][-1] + 1
    return tuple(packets)


def packet(mark, body, check="sum"):
    return [mark, len(body), *body, slow_check(check, [len(body), *body])]


class TestCheck(unittest.TestCase):
    def test_told_ones(self):
        self.assertEqual([check_of(kind, ()) for kind in KINDS], [0, 0, 0])
        self.assertEqual([check_of(kind, [200]) for kind in ("sum", "xor")], [200, 200])
        self.assertEqual(check_of("sum", (200, 100, 7)), 51)
        self.assertEqual(check_of("xor", (0b1100, 0b1010, 0b1)), 0b0111)
        self.assertEqual(check_of("rest", (1,)), 7)
        self.assertEqual(check_of("rest", (128,)), 137)
        # What is widely told of this very check: of the figures 1 to 9 as they are written in bytes.
        self.assertEqual(check_of("rest", tuple(b"123456789")), 0xF4)

    def test_each_number_alone(self):
        for kind, number in itertools.product(KINDS, range(256)):
            self.assertEqual(check_of(kind, (number,)), slow_check(kind, (number,)))

    def test_rows(self):
        chance = random.Random(26)
        for _ in range(300):
            numbers = [chance.choice((0, 255, chance.randrange(256))) for _ in range(chance.choice((0, 1, 2, 5, 60)))]
            kept = list(numbers)
            for kind in KINDS:
                self.assertEqual(check_of(kind, numbers), slow_check(kind, numbers))
                self.assertEqual(check_of(kind, tuple(numbers)), slow_check(kind, numbers))
            self.assertEqual(numbers, kept)


class TestPacketsIn(unittest.TestCase):
    def packets(self, things, mark=7, **named):
        items = items_of(things)
        told = packets_in(items, mark, **named)
        self.assertEqual(told, slow_packets(items, mark, named.get("most", 255), named.get("check", "sum")))
        self.assertEqual(packets_in(list(items), mark, **named), told)
        return [(kind, what, parts) for kind, what, _, _, parts in told]

    def test_told_ones(self):
        items = items_of([7, 2, 30, 40, 72])
        self.assertEqual(packets_in(items, 7), (("packet", (30, 40), 1, 48, (0, 1, 2, 3, 4)),))
        items = items_of([1, 7, 0, 0, 2, 7, 1])
        self.assertEqual(packets_in(items, 7), (("packet", (), 11, 38, (1, 2, 3)), ("torn", "end", 51, 68, (5, 6))))
        self.assertEqual(packets_in((), 7), ())
        self.assertEqual(packets_in(items_of([1, 2, 3]), 7), ())

    def test_each_kind_of_check(self):
        for kind in KINDS:
            body = (200, 100, 255, 0, 9)
            self.assertEqual(self.packets(packet(7, body, kind), check=kind), [("packet", body, tuple(range(8)))])
        self.assertEqual(self.packets(packet(7, (200, 100, 3))), [("packet", (200, 100, 3), tuple(range(6)))])
        self.assertEqual(self.packets(packet(7, (200, 100, 3), "rest"))[0][:2], ("torn", "check"))

    def test_torn_by_end(self):
        whole = packet(7, (1, 2, 3))
        for many in range(1, len(whole)):
            self.assertEqual(self.packets([9] + whole[:many]), [("torn", "end", tuple(range(1, many + 1)))])
        # It is the last, whatever begins within it.
        self.assertEqual(self.packets([7, 9, 7, 0, 0]), [("torn", "end", (0, 1, 2, 3, 4))])

    def test_torn_by_word(self):
        for wrong in (("mute", 0), ("torn", "end"), ("torn", "bits"), ("start", ""), ("stop", ""), 256, 65535, ("mute", 7)):
            for at in range(1, 5):
                things = packet(7, (1, 1))
                things[at] = wrong
                self.assertEqual(self.packets(things)[0], ("torn", "word", (0,)))
            # It goes on with the item behind the mark's.
            self.assertEqual(self.packets([7, wrong] + packet(7, (5,))), [("torn", "word", (0,)), ("packet", (5,), (2, 3, 4, 5))])

    def test_torn_by_long(self):
        for most in (0, 1, 5, 254):
            self.assertEqual(self.packets([8, 7, most + 1, 1, 1], most=most), [("torn", "long", (1,))])
            body = (1,) * most
            self.assertEqual(self.packets(packet(7, body), most=most), [("packet", body, tuple(range(most + 3)))])
        self.assertEqual(self.packets([7, 7, 0, 0], most=6), [("torn", "long", (0,)), ("packet", (), (1, 2, 3))])
        body = (3,) * 255
        self.assertEqual(self.packets(packet(7, body)), [("packet", body, tuple(range(258)))])

    def test_torn_by_check(self):
        self.assertEqual(self.packets([7, 1, 5, 7, 0, 0]), [("torn", "check", (0,)), ("packet", (), (3, 4, 5))])
        for kind in KINDS:
            things = packet(7, (1, 2, 3), kind)
            things[-1] ^= 1
            self.assertEqual(self.packets(things, check=kind), [("torn", "check", (0,))])

    def test_in_their_order_what_tells_first(self):
        # Not whole, though further on items lack; above most, though what is behind isn't whole; items lack ahead of all.
        self.assertEqual(self.packets([7, 9, ("mute", 1), 1])[0], ("torn", "word", (0,)))
        self.assertEqual(self.packets([7, 9, ("mute", 1)], most=8), [("torn", "long", (0,))])
        self.assertEqual(self.packets([7]), [("torn", "end", (0,))])
        self.assertEqual(self.packets([7, 300], most=8), [("torn", "word", (0,))])

    def test_marks(self):
        self.assertEqual(self.packets([("mute", 7), ("torn", "end"), 7, 0, 0]), [("packet", (), (2, 3, 4))])
        # A mark within a packet begins none of its own; within a torn one it does.
        self.assertEqual(self.packets(packet(7, (7, 0, 0))), [("packet", (7, 0, 0), tuple(range(6)))])
        self.assertEqual(self.packets([7, 3, 7, 0, 0, 99]),
                         [("torn", "check", (0,)), ("packet", (), (2, 3, 4))])
        self.assertEqual(self.packets(packet(0, (0, 0)), mark=0), [("packet", (0, 0), tuple(range(5)))])
        self.assertEqual(self.packets(packet(255, ()), mark=255), [("packet", (), (0, 1, 2))])
        self.assertEqual(self.packets([263, 0, 0], mark=7), [])

    def test_right_behind_one_another(self):
        bodies = [(), (1,), (7, 7), (), (9, 8, 7)]
        things = [number for body in bodies for number in packet(7, body)]
        self.assertEqual([told[:2] for told in self.packets(things)], [("packet", body) for body in bodies])

    def test_most_and_check_left_out(self):
        self.assertEqual(MOST, 255)
        items = items_of(packet(7, (1, 2)))
        self.assertEqual(packets_in(items, 7), packets_in(items, 7, most=255, check="sum"))
        self.assertEqual(numbers_of([(1, 2)], 7), numbers_of([(1, 2)], 7, most=255, check="sum"))

    def test_by_chance_and_beginnings(self):
        chance = random.Random(27)
        seen = set()
        for _ in range(600):
            things = []
            check, most = chance.choice(KINDS), chance.choice((0, 1, 3, 255))
            for _ in range(chance.randint(0, 8)):
                if chance.random() < 0.6:
                    body = [chance.choice((0, 1, 2, 7)) for _ in range(chance.randint(0, 4))]
                    things += packet(7, body, check)
                    if chance.random() < 0.3:
                        things[chance.randrange(len(things))] = chance.choice((0, 7, 300, ("mute", 3), ("torn", "gate")))
                else:
                    things.append(chance.choice((0, 1, 2, 7, 255, 256, ("mute", 7), ("start", ""), ("stop", ""))))
            told = self.packets(things, most=most, check=check)
            seen.update(("packet",) if kind == "packet" else (kind, what) for kind, what, _ in told)
            for many in range(len(things)):
                ahead = self.packets(things[:many], most=most, check=check)
                settled = [one for one in ahead if one[:2] != ("torn", "end")]
                self.assertEqual(settled, told[:len(settled)])
        self.assertEqual(seen, {("packet",), ("torn", "end"), ("torn", "word"), ("torn", "long"), ("torn", "check")})

    def test_a_packet_alone_from_its_parts(self):
        chance = random.Random(270)
        for _ in range(50):
            things = [1, 2] + packet(7, [chance.randrange(256) for _ in range(5)]) + [7] + packet(7, (3,)) + [4]
            items = items_of(things)
            for kind, what, begin, end, parts in packets_in(items, 7):
                if kind == "packet":
                    alone = packets_in([items[part] for part in parts], 7)
                    self.assertEqual(alone, ((kind, what, begin, end, tuple(range(len(parts)))),))

    def test_of_lines(self):
        chance = random.Random(271)
        for _ in range(30):
            catch = some_catch(chance, "cd", 400, chance.choice((1, 2, 3)))
            for protocol in (("clocked", "c", "rise", "d", "", 1, "low"), ("twowire", "c", "d"), ("framed", "d", 2, 2, "none", 1)):
                items = read_words(catch, protocol)
                self.assertEqual(packets_in(items, 1, most=3), slow_packets(items, 1, 3, "sum"))


class TestNumbersOf(Refusals, unittest.TestCase):
    def test_told_ones(self):
        self.assertEqual(numbers_of([(30, 40), ()], 7), (7, 2, 30, 40, 72, 7, 0, 0))
        self.assertEqual(numbers_of((), 7), ())
        self.assertEqual(numbers_of([b"\x01\xff", [5], (6,)], 9, check="xor"), (9, 2, 1, 255, 252, 9, 1, 5, 4, 9, 1, 6, 7))
        self.assertEqual(numbers_of(([1, 2, 3],), 0, most=3, check="rest"), (0, 3, 1, 2, 3, check_of("rest", (3, 1, 2, 3))))

    def test_read_as_just_these_packets(self):
        chance = random.Random(30)
        protocols = (("clocked", "c", "rise", "d", "g", 8, "high"), ("clocked", "c", "fall", "d", "", 16, "low"),
                     ("framed", "d", 3, 8, "even", 1), ("framed", "d", 2, 9, "none", 2), ("twowire", "c", "d"))
        for _ in range(60):
            mark, check, most = chance.choice((0, 7, 255)), chance.choice(KINDS), chance.choice((3, 5, 255))
            bodies = [[chance.choice((mark, 0, chance.randrange(256))) for _ in range(chance.randint(0, min(most, 9)))]
                      for _ in range(chance.randint(0, 6))]
            sorts = [chance.choice((tuple, list, bytes))(body) for body in bodies]
            kept = [list(body) for body in sorts]
            numbers = numbers_of(sorts, mark, most=most, check=check)
            self.assertEqual([list(body) for body in sorts], kept)
            self.assertIs(type(numbers), tuple)
            self.assertEqual(numbers, tuple(number for body in bodies for number in packet(mark, body, check)))
            for protocol in protocols:
                groups = [numbers]
                if protocol[0] == "twowire":
                    groups = [[(number, True) for number in numbers_of([body], mark, most=most, check=check)]
                              for body in bodies]
                packets = packets_in(read_words(made(protocol, groups), protocol), mark, most=most, check=check)
                self.assertEqual([told[:2] for told in packets], [("packet", tuple(body)) for body in bodies])

    def test_too_long_ones(self):
        for most in (0, 1, 3, 255):
            for sort in (tuple, list, bytes):
                fits, longer = sort([1] * most), sort([1] * (most + 1))
                self.assertEqual(len(numbers_of([fits, fits], 7, most=most)), 2 * most + 6)
                self.refused(NoNumber, {"group": 0, "at": -1}, numbers_of, [longer], 7, most=most)
                self.refused(NoNumber, {"group": 2, "at": -1}, numbers_of, (fits, fits, longer, longer), 7, most=most)
        self.refused(NoNumber, {"group": 1, "at": -1}, numbers_of, [(1,), (1,) * 256], 7)

    def test_numbers_beyond(self):
        for number in (256, 257, 65535, 1000000000, 10 ** 30):
            for at in range(4):
                body = [255] * 4
                body[at] = number
                self.refused(NoNumber, {"group": 0, "at": at}, numbers_of, [body], 7)
                self.refused(NoNumber, {"group": 2, "at": at}, numbers_of, [(), b"ab", tuple(body), [number]], 7, check="rest")
                self.refused(NoNumber, {"group": 0, "at": at}, numbers_of, [body + [number]], 7, most=5)

    def test_the_first_one_due(self):
        # Too long is due ahead of a number beyond in the same body, and a body ahead of the next ones.
        self.refused(NoNumber, {"group": 0, "at": -1}, numbers_of, [(256, 1, 1)], 7, most=2)
        self.refused(NoNumber, {"group": 0, "at": 1}, numbers_of, [(1, 256), (1, 1, 1)], 7, most=2)
        self.refused(NoNumber, {"group": 1, "at": -1}, numbers_of, [(1, 1), (1, 1, 1), (256,)], 7, most=2)
        self.refused(NoNumber, {"group": 0, "at": 0}, numbers_of, [(256, 300)], 7, most=2)


class TestBytes(Refusals, unittest.TestCase):
    def test_packed(self):
        self.assertEqual(packed(()), b"")
        self.assertEqual(packed([0, 255, 16]), b"\x00\xff\x10")
        self.assertEqual(packed(tuple(range(256))), bytes(range(256)))
        self.assertIs(type(packed([1])), bytes)
        self.assertEqual(list(packed(numbers_of([(1, 2)], 7))), [7, 2, 1, 2, 5])

    def test_hex(self):
        self.assertEqual(hex_of(b""), "")
        self.assertEqual(hex_of(b"\x00\x0f\xf0\xab"), "000ff0ab")
        self.assertEqual(hex_of(bytes(range(256))), "".join(format(number, "02x") for number in range(256)))

    def test_there_and_back(self):
        chance = random.Random(300)
        for many in (0, 1, 2, 60, 3000):
            data = bytes(chance.randrange(256) for _ in range(many))
            self.assertEqual(data_of(hex_of(data)), data)
            self.assertIs(type(data_of(hex_of(data))), bytes)
            self.assertEqual(packed(list(data)), data)
        self.assertEqual(data_of(""), b"")
        self.assertEqual(data_of("00fF".lower()), b"\x00\xff")

    def test_texts_that_are_none(self):
        for at, text in ((0, "g"), (0, "G0"), (1, "0g"), (0, "F0"), (1, "0A"), (3, "abcD"), (0, " "), (2, "00 11"), (4, "0011 "),
                         (0, " 00"), (0, "\n"), (4, "0011\n"), (1, "0x11"), (0, "-1"), (2, "00_1"), (1, "1"), (3, "123"),
                         (5, "abcde"), (2, "12g"), (2, "12gh"), (0, "zz1"), (2999, "0" * 2999), (3000, "0" * 3000 + "-")):
            self.refused(NoText, {"at": at}, data_of, text)


if __name__ == "__main__":
    unittest.main()
