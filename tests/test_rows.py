"""Point 36: rows of numbers held against one another."""

import heapq
import itertools
import random
import unittest

from tests.helper import BILLION, Refusals
from wirelooker.rows import LACK, MORE, UNLIKE, held, held_right

COSTS = ({}, {"unlike": 0}, {"lack": 0}, {"more": 0}, {"unlike": 0, "lack": 0, "more": 0}, {"unlike": 3, "lack": 1, "more": 1},
         {"unlike": BILLION, "lack": BILLION - 1, "more": 7}, {"lack": 5, "more": 2}, {"unlike": 2, "lack": 1, "more": 4})


def least_cost(one, other, unlike=1, lack=1, more=1):
    """The least cost, by going on from the nearest places first."""
    queue = [(0, 0, 0)]
    done = set()
    while True:
        cost, i, j = heapq.heappop(queue)
        if (i, j) == (len(one), len(other)):
            return cost
        if (i, j) in done:
            continue
        done.add((i, j))
        if i < len(one) and j < len(other):
            heapq.heappush(queue, (cost + (0 if one[i] == other[j] else unlike), i + 1, j + 1))
        if i < len(one):
            heapq.heappush(queue, (cost + lack, i + 1, j))
        if j < len(other):
            heapq.heappush(queue, (cost + more, i, j + 1))


def is_whole(thing):
    return type(thing) is int


def slow_right(one, other, some, unlike=1, lack=1, more=1):
    """Whether all that is told of cost, steps and table is so, step by step."""
    cost, steps, table = some
    i = j = total = 0
    for step in steps:
        if not all(is_whole(number) for number in step[1:]):
            return False
        word, numbers = step[0], step[1:]
        if word in ("same", "unlike"):
            if numbers != (i, j) or i >= len(one) or j >= len(other) or (one[i] == other[j]) != (word == "same"):
                return False
            i, j, total = i + 1, j + 1, total + (unlike if word == "unlike" else 0)
        elif word == "lack":
            if numbers != (i,) or i >= len(one):
                return False
            i, total = i + 1, total + lack
        elif word == "more":
            if numbers != (j,) or j >= len(other):
                return False
            j, total = j + 1, total + more
        else:
            return False
    if (i, j) != (len(one), len(other)) or total != cost or not is_whole(cost) or len(table) != len(one) + 1:
        return False
    if any(len(row) != len(other) + 1 or not all(is_whole(number) for number in row) for row in table):
        return False
    if table[0][0] != 0 or table[-1][-1] != cost:
        return False
    for i, j in itertools.product(range(len(one) + 1), range(len(other) + 1)):
        if i < len(one) and table[i + 1][j] - table[i][j] > lack:
            return False
        if j < len(other) and table[i][j + 1] - table[i][j] > more:
            return False
        if i < len(one) and j < len(other):
            if table[i + 1][j + 1] - table[i][j] > (0 if one[i] == other[j] else unlike):
                return False
    return True


def put(things, at, thing):
    """A tuple with one thing otherwise."""
    return (*things[:at], thing, *things[at + 1:])


class TestHeld(Refusals, unittest.TestCase):
    def held(self, one, other, **costs):
        some = held(one, other, **costs)
        self.assertIs(type(some), tuple)
        self.assertEqual(some[0], least_cost(one, other, **costs), (one, other, costs))
        self.assertTrue(slow_right(one, other, some, **costs), (one, other, costs))
        self.assertIs(held_right(one, other, some, **costs), True)
        self.assertEqual(held(list(one), tuple(other), **costs), some)
        return some

    def test_values(self):
        self.assertEqual((UNLIKE, LACK, MORE), (1, 1, 1))

    def test_told_ones(self):
        self.assertEqual(held((), ()), (0, (), ((0,),)))
        self.assertEqual(held((5,), (5,)), (0, (("same", 0, 0),), ((0, 1), (1, 0))))
        self.assertEqual(self.held((5,), ())[:2], (1, (("lack", 0),)))
        self.assertEqual(self.held((), (5, 6), more=3)[:2], (6, (("more", 0), ("more", 1))))
        self.assertEqual(self.held((5,), (6,))[:2], (1, (("unlike", 0, 0),)))
        self.assertEqual(self.held((1, 2, 3), (1, 3))[:2], (1, (("same", 0, 0), ("lack", 1), ("same", 2, 1))))
        self.assertEqual(self.held([1, 3], [1, 2, 3], more=9, unlike=0, lack=0)[0], 9)
        self.assertEqual(self.held((1,), (2,), unlike=9, lack=4, more=4)[0], 8)
        self.assertEqual(self.held(one=(1,), other=(2,), unlike=8, lack=4, more=5)[1], (("unlike", 0, 0),))

    def test_every_short_pair(self):
        rows = [row for many in range(4) for row in itertools.product((0, 1), repeat=many)]
        for one, other in itertools.product(rows, repeat=2):
            for costs in COSTS:
                self.held(one, other, **costs)

    def test_by_chance(self):
        chance = random.Random(36)
        for _ in range(150):
            kinds = chance.choice((1, 2, 4, BILLION))
            one, other = ([chance.randrange(kinds) for _ in range(chance.randrange(12))] for _ in range(2))
            few = chance.choice((3, BILLION))
            self.held(one, other, unlike=chance.randrange(few), lack=chance.randrange(few), more=chance.randrange(few))
            self.held(one, other)

    def test_rows_of_sixty(self):
        chance = random.Random(360)
        one = [chance.choice((0, 1, BILLION)) for _ in range(60)]
        other = [number for number in one if chance.random() < 0.8] + [1, 2, 3]
        self.quickly(held, one, other, seconds=2)
        for costs in COSTS:
            self.held(one, other[:60], **costs)
        self.held(one, one, unlike=BILLION, lack=BILLION, more=BILLION)
        self.held(one, [], lack=BILLION)
        self.held([], one)

    def test_what_is_handed_in_stays(self):
        one, other = [1, 2, 3], [2, 4]
        first = held(one, other)
        self.assertEqual((one, other), ([1, 2, 3], [2, 4]))
        held_right(one, other, first)
        self.assertEqual((one, other), ([1, 2, 3], [2, 4]))
        one.clear()
        self.assertEqual(held([1, 2, 3], other), first)


class TestHeldRight(unittest.TestCase):
    def right(self, one, other, some, **costs):
        told = held_right(one, other, some, **costs)
        self.assertIs(told, slow_right(one, other, some, **costs), (one, other, some, costs))
        return told

    def test_other_steps_and_tables(self):
        one, other = (1, 2), (3,)
        cost, _, table = held(one, other)
        for steps in ((("unlike", 0, 0), ("lack", 1)), (("lack", 0), ("unlike", 1, 0))):
            self.assertIs(self.right(one, other, (cost, steps, table)), True)
        # Numbers between may be below 0, and as low as one likes where nothing hangs on them.
        self.assertIs(self.right(one, other, (2, (("unlike", 0, 0), ("lack", 1)), ((0, 1), (-5, 1), (1, 2)))), False)
        self.assertIs(self.right(one, other, (2, (("unlike", 0, 0), ("lack", 1)), ((0, -10 ** 30), (1, 1), (1, 2)))), False)
        self.assertIs(self.right(one, other, (2, (("unlike", 0, 0), ("lack", 1)), ((0, 0), (1, 1), (1, 2)))), True)
        same = (0, (("same", 0, 0), ("same", 1, 1)), ((0, -7, -9), (-8, 0, -3), (-10 ** 40, -4, 0)))
        self.assertIs(self.right((1, 2), (1, 2), same), False)
        same = (0, (("same", 0, 0), ("same", 1, 1)), ((0, 1, 2), (1, 0, 1), (2, 1, 0)))
        self.assertIs(self.right((1, 2), (1, 2), same), True)
        same = (0, (("same", 0, 0), ("same", 1, 1)), ((0, -1, 0), (-1, 0, -1), (0, -1, 0)))
        self.assertIs(self.right((1, 2), (1, 2), same), True)

    def test_costs_that_are_not_the_least(self):
        one, other = (1, 2), (1, 2)
        steps = (("lack", 0), ("lack", 1), ("more", 0), ("more", 1))
        table = ((0, 1, 2), (1, 0, 1), (2, 1, 4))
        self.assertIs(self.right(one, other, (4, steps, table)), False)
        self.assertIs(self.right(one, other, (4, steps, ((0, 1, 2), (1, 2, 3), (2, 3, 4)))), False)
        self.assertIs(self.right(one, other, (0, steps, held(one, other)[2])), False)
        # An unlike step is one of unlike numbers alone, and a same one of alike ones.
        table = held(one, other, unlike=0)[2]
        self.assertIs(self.right(one, other, (0, (("unlike", 0, 0), ("same", 1, 1)), table), unlike=0), False)
        self.assertIs(self.right((1,), (2,), (0, (("same", 0, 0),), ((0, 1), (1, 0))), unlike=0), False)

    def test_one_thing_otherwise(self):
        chance = random.Random(361)
        for _ in range(25):
            one, other = ([chance.randrange(3) for _ in range(chance.randint(0, 6))] for _ in range(2))
            costs = dict(zip(("unlike", "lack", "more"), chance.choice(((1, 1, 1), (2, 1, 3), (5, 2, 2), (0, 1, 0), (1, 0, 0)))))
            cost, steps, table = held(one, other, **costs)
            for wrong in (cost + 1, cost - 1, -1, -cost - 1, cost == 0):
                self.assertIs(self.right(one, other, (wrong, steps, table), **costs), False)
            for at, step in enumerate(steps):
                for word in ("same", "unlike", "lack", "more", "less", "", "Same"):
                    if word != step[0]:
                        self.assertIs(self.right(one, other, (cost, put(steps, at, (word, *step[1:])), table), **costs), False)
                for place in range(1, len(step)):
                    for number in (step[place] + 1, step[place] - 1, -1, -10 ** 30, step[place] == 1):
                        wrong = put(steps, at, put(step, place, number))
                        self.assertIs(self.right(one, other, (cost, wrong, table), **costs), False)
                for wrong in (steps[:at] + steps[at + 1:], steps[:at + 1] + steps[at:], put(steps, at, step + (0,)),
                              put(steps, at, step[:-1]), steps[:at] + (("more", 0),) + steps[at:]):
                    self.right(one, other, (cost, wrong, table), **costs)
                self.assertIs(held_right(one, other, (cost, steps[:at] + steps[at + 1:], table), **costs), False)
                self.assertIs(held_right(one, other, (cost, steps[:at + 1] + steps[at:], table), **costs), False)
                for there in range(at):
                    wrong = put(put(steps, at, steps[there]), there, step)
                    told = self.right(one, other, (cost, wrong, table), **costs)
                    # A number without another may stand ahead of another's or behind it, else the order is the only one.
                    self.assertIn((told, {step[0], steps[there][0]}), [(False, {step[0], steps[there][0]}), (True, {"lack", "more"})])

    def test_one_number_of_the_table_otherwise(self):
        chance = random.Random(362)
        told = set()
        for _ in range(25):
            one, other = ([chance.randrange(3) for _ in range(chance.randint(0, 5))] for _ in range(2))
            cost, steps, table = held(one, other)
            for i, row in enumerate(table):
                for j, number in enumerate(row):
                    for wrong in (number + 1, number - 1, number - 2, -1, 10 ** 40, -10 ** 40):
                        told.add(self.right(one, other, (cost, steps, put(table, i, put(row, j, wrong)))))
                    self.assertIs(held_right(one, other, (cost, steps, put(table, i, put(row, j, number == 1)))), False)
                for wrong in (row + (row[-1],), row[:-1], (0,) + row, ()):
                    self.assertIs(self.right(one, other, (cost, steps, put(table, i, wrong))), False)
                self.assertIs(self.right(one, other, (cost, steps, table[:i] + table[i + 1:])), False)
                self.assertIs(self.right(one, other, (cost, steps, table[:i + 1] + table[i:])), False)
            self.assertIs(held_right(one, other, (cost, steps, ())), False)
        self.assertEqual(told, {True, False})

    def test_truths_are_no_numbers(self):
        self.assertIs(held_right((), (), (0, (), ((0,),))), True)
        self.assertIs(held_right((), (), (False, (), ((0,),))), False)
        self.assertIs(held_right((), (), (0, (), ((False,),))), False)
        self.assertIs(held_right((5,), (5,), (0, (("same", False, 0),), ((0, 1), (1, 0)))), False)
        self.assertIs(held_right((5,), (5,), (0, (("same", 0, 0),), ((0, True), (1, 0)))), False)
        self.assertIs(held_right((5,), (), (True, (("lack", 0),), ((0,), (1,)))), False)

    def test_things_of_other_forms(self):
        good = held((5,), (6,))
        for wrong in ((), good[:2], good + (0,), (good,), None, 0, "x", ("1", *good[1:]), (good[0], "", good[2]),
                      (good[0], (), good[2]), (good[0], ((),), good[2]), (good[0], (("unlike",),), good[2]),
                      (good[0], ("unlike",), good[2]), (good[0], ((0, 0, 0),), good[2]), (*good[:2], 0), (*good[:2], (0, 1)),
                      (*good[:2], ((0, "1"), (1, 1))), (good[0], (("unlike", "0", 0),), good[2])):
            self.assertIs(held_right((5,), (6,), wrong), False, wrong)

    def test_steps_that_cost_nothing_are_missed_too(self):
        one, other = (1, 2, 3), (4, 5)
        cost, steps, table = held(one, other, lack=0, more=0)
        self.assertEqual((cost, len(steps)), (0, 5))
        for at in range(5):
            self.assertIs(self.right(one, other, (cost, steps[:at] + steps[at + 1:], table), lack=0, more=0), False)
        self.assertIs(self.right((1,), (), (0, (), ((0,), (0,))), lack=0), False)
        self.assertIs(self.right((), (1,), (0, (), ((0, 0),)), more=0), False)
        self.assertIs(held_right((), (), (0, [], ((0,),))), False)
        self.assertIs(held_right((), (), (0, (), [(0,)])), False)
        self.assertIs(held_right((), (), (0, (), ([0],))), False)
        self.assertIs(held_right((), (), [0, (), ((0,),)]), False)

    def test_the_told_costs_count(self):
        one, other = (1, 2, 3), (1, 4, 3)
        some = held(one, other, unlike=5, lack=7, more=8)
        self.assertIs(held_right(one, other, some, unlike=5, lack=7, more=8), True)
        self.assertIs(held_right(some=some, other=other, one=one, more=8, lack=7, unlike=5), True)
        self.assertIs(held_right(one, other, some), False)
        self.assertIs(held_right(one, other, some, unlike=4, lack=7, more=8), False)
        self.assertIs(held_right(one, other, some, unlike=5, lack=2, more=2), False)
        self.assertIs(held_right(one, (1, 3), some, unlike=5, lack=7, more=8), False)


if __name__ == "__main__":
    unittest.main()
