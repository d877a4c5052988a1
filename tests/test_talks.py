"""Point 29: talks, read from rows of packets."""

import itertools
import random
import unittest

from wirelooker.making import made
from wirelooker.packets import numbers_of, packets_in
from wirelooker.reading import read_words
from wirelooker.talks import talks_in

TORN = ("end", "word", "long", "check")


def items_of(bodies):
    """Packets of these bodies, a text for a torn one, at moments that rise."""
    return tuple(("torn" if isinstance(body, str) else "packet", body, 100 * at + 5, 100 * at + 50 + at, (3 * at, 3 * at + 1))
                 for at, body in enumerate(bodies))


def slow_talks(items):
    """The talks, each packet held against those ahead of it."""
    def told(kind, what, parts):
        return (kind, what, items[parts[0]][2], items[parts[-1]][3], parts)

    packets = {at: item[1] for at, item in enumerate(items) if item[0] == "packet" and item[1]}

    def open_ahead(tag, below):
        """The last ask of the tag below a number, unless an answer stands behind it."""
        same = [at for at, body in packets.items() if at < below and body[0] % 128 == tag]
        return same[-1] if same and packets[same[-1]][0] == tag else None

    talks = []
    for at, body in packets.items():
        ahead = open_ahead(body[0] % 128, at)
        if body[0] >= 128:
            if ahead is None:
                talks.append(told("stray", body[1:], (at,)))
            else:
                talks.append(told("talk", (packets[ahead][1:], body[1:]), (ahead, at)))
        elif ahead is not None:
            talks.append(told("lost", packets[ahead][1:], (ahead,)))
    for at, body in packets.items():
        if open_ahead(body[0] % 128, len(items)) == at:
            talks.append(told("open", body[1:], (at,)))
    return tuple(talks)


class TestTalks(unittest.TestCase):
    def talks(self, *bodies):
        items = items_of(bodies)
        told = talks_in(items)
        self.assertEqual(told, slow_talks(items), bodies)
        self.assertEqual(talks_in(list(items)), told)
        return [(kind, what, parts) for kind, what, _, _, parts in told]

    def test_told_ones(self):
        self.assertEqual(talks_in(()), ())
        self.assertEqual(talks_in([]), ())
        self.assertEqual(talks_in(items_of([(5, 1, 2), (133, 3)])), (("talk", ((1, 2), (3,)), 5, 151, (0, 1)),))
        self.assertEqual(talks_in(items_of([(5,)])), (("open", (), 5, 50, (0,)),))
        self.assertEqual(talks_in(items_of([(), (200, 7)])), (("stray", (7,), 105, 151, (1,)),))

    def test_a_tag_that_comes_again(self):
        self.assertEqual(self.talks((5, 1), (5, 2), (133, 3)), [("lost", (1,), (0,)), ("talk", ((2,), (3,)), (1, 2))])
        self.assertEqual(self.talks((5, 1), (133, 3), (5, 2)), [("talk", ((1,), (3,)), (0, 1)), ("open", (2,), (2,))])
        self.assertEqual(self.talks((5,), (5,), (5,)), [("lost", (), (0,)), ("lost", (), (1,)), ("open", (), (2,))])
        (lost, _) = talks_in(items_of([(5, 1), (5, 2)]))
        self.assertEqual(lost, ("lost", (1,), 5, 50, (0,)))

    def test_answers_of_no_ask(self):
        self.assertEqual(self.talks((133, 3)), [("stray", (3,), (0,))])
        self.assertEqual(self.talks((5,), (133, 1), (133, 2)), [("talk", ((), (1,)), (0, 1)), ("stray", (2,), (2,))])
        self.assertEqual(self.talks((5,), (134,)), [("stray", (), (1,)), ("open", (), (0,))])

    def test_the_first_and_the_last_tag(self):
        self.assertEqual(self.talks((0,), (128,)), [("talk", ((), ()), (0, 1))])
        self.assertEqual(self.talks((127,), (255, 0)), [("talk", ((), (0,)), (0, 1))])
        self.assertEqual(self.talks((127,), (127,), (128,)),
                         [("lost", (), (0,)), ("stray", (), (2,)), ("open", (), (1,))])

    def test_open_ones_as_they_came(self):
        self.assertEqual(self.talks((9, 1), (3, 2), (6, 3), (3, 4), (137,), (9, 5)), [
            ("lost", (2,), (1,)), ("talk", ((1,), ()), (0, 4)),
            ("open", (3,), (2,)), ("open", (4,), (3,)), ("open", (5,), (5,))])

    def test_torn_ones_and_bodies_without_numbers(self):
        self.assertEqual(self.talks("word", (5, 1), "check", (), "long", (133,), (), "end"),
                         [("talk", ((1,), ()), (1, 5))])
        self.assertEqual(self.talks("word", "end"), [])
        self.assertEqual(self.talks((), ()), [])

    def test_every_short_row(self):
        bodies = ((), "word", (1, 7), (129, 8), (2,), (130, 9))
        for many in range(6):
            for row in itertools.product(bodies, repeat=many):
                self.talks(*row)

    def test_rows_by_chance(self):
        chance = random.Random(29)
        for _ in range(400):
            tags = chance.sample(range(128), 3)
            self.talks(*[chance.choice((
                (), chance.choice(TORN), (chance.choice(tags), *[chance.randrange(256) for _ in range(chance.randrange(3))]),
                (chance.choice(tags) + 128, at))) for at in range(chance.choice((5, 20, 60)))])

    def test_packets_that_were_read(self):
        protocol = ("framed", "d", 2, 8, "even", 1)
        numbers = [*numbers_of([(5, 1), (6,)], 7), 7, 9, *numbers_of([(), (134, 4)], 7)]
        packets = packets_in(read_words(made(protocol, [numbers]), protocol), 7, most=8)
        self.assertEqual([item[:2] for item in packets], [
            ("packet", (5, 1)), ("packet", (6,)), ("torn", "long"), ("packet", ()), ("packet", (134, 4))])
        told = talks_in(packets)
        self.assertEqual([(talk[0], talk[1], talk[4]) for talk in told],
                         [("talk", ((), (4,)), (1, 4)), ("open", (1,), (0,))])
        self.assertEqual(told[0][2:4], (packets[1][2], packets[4][3]))

    def test_what_is_handed_in_stays(self):
        items = list(items_of([(5, 1), (5,), (133,), (4,)]))
        kept = list(items)
        first = talks_in(items)
        self.assertEqual(items, kept)
        self.assertEqual(talks_in(items=tuple(items)), first)
        items.clear()
        self.assertEqual(len(first), 3)


if __name__ == "__main__":
    unittest.main()
