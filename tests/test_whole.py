"""Points 2 and 3, over the whole program: how it is asked, what becomes of what is handed in and told, and the promise."""

import copy
import importlib
import inspect
import itertools
import random
import unittest

from tests.helper import Refusals, catch_of, levels_of, some_catch
from tests.slow import truths
from tests.stacking import some_stack, some_stacked_catch
from tests.test_interface import INTERFACE
from tests.test_leads import slow_places
from tests.wishing import some_wish
from wirelooker.alike import soonest, wishes_alike
from wirelooker.catches import cut, line_in, moments_of
from wirelooker.desk import Desk
from wirelooker.errors import Broken, WireError
from wirelooker.leads import covering, made_again, owner_of, places_of
from wirelooker.looker import Looker
from wirelooker.making import cut_out, made
from wirelooker.meaning import first_when, is_so, when
from wirelooker.packets import numbers_of, packets_in
from wirelooker.papers import paper_holds
from wirelooker.reading import item_holds, read_words
from wirelooker.reasons import caught, reason
from wirelooker.rows import held, held_right
from wirelooker.shifts import best_shift, unlike_at
from wirelooker.stacks import read_stack, settled
from wirelooker.watching import Watcher
from wirelooker.wishtexts import read_wish, show_wish

FRAMED = ("framed", "d", 4, 8, "none", 1)
STACK = (FRAMED, ("packets", 7, 255, "sum"), ("talks",))
CATCH = made(FRAMED, [numbers_of([(5, 30), (133, 40)], 7)])
READING = read_stack(CATCH, STACK)
WISH = ("both", ("high", "d"), ("ago", 2, ("fall", "d")))
LINE = ((0, 2), (1, 3), (0, 1))
SPANS = ((0, 2), (4, 9))
HELD = held((1, 2), (2,))

# For each function of the interface what it is asked here, by the names of its arguments.
CALLS = {
    "spans": {
        "spans_of": {"pairs": [(4, 9), [1, 2], (2, 4)]}, "both_of": {"one": SPANS, "other": ((1, 5),)},
        "either_of": {"one": SPANS, "other": ((1, 5),)}, "others": {"some": SPANS, "below": 12}, "later": {"some": SPANS, "n": 3},
        "grown": {"some": SPANS, "n": 3}, "worn": {"some": SPANS, "n": 1}, "between": {"some": SPANS, "begin": 1, "end": 5},
        "is_in": {"some": SPANS, "moment": 4}, "how_many": {"some": SPANS}, "first_of": {"some": SPANS}},
    "lines": {
        "is_line": {"thing": LINE}, "long_of": {"line": LINE}, "level_at": {"line": LINE, "moment": 3}, "highs": {"line": LINE},
        "line_by": {"some": SPANS, "long": 10}, "rises": {"line": LINE}, "falls": {"line": LINE},
        "joined": {"one": LINE, "other": ((1, 2),)}, "stretch": {"line": LINE, "begin": 1, "end": 4}, "turned": {"line": LINE},
        "slowed": {"line": LINE, "times": 3}},
    "catches": {
        "look_catch": {"catch": CATCH}, "moments_of": {"catch": CATCH}, "line_in": {"catch": CATCH, "name": "d"},
        "put_behind": {"one": CATCH, "other": cut(CATCH, 0, 9)}, "cut": {"catch": CATCH, "begin": 3, "end": 9},
        "just": {"catch": CATCH, "names": ["d"]}},
    "catchtexts": {"show_catch": {"catch": CATCH}, "read_catch": {"text": "d 0x1\nc 1x1"}},
    "protocols": {"look_protocol": {"names": ["d"], "protocol": FRAMED}, "show_protocol": {"protocol": FRAMED},
                  "read_protocol": {"text": "twowire c d"}},
    "clocked": {}, "framed": {}, "twowire": {},
    "reading": {"read_words": {"catch": CATCH, "protocol": FRAMED},
                "item_holds": {"catch": CATCH, "protocol": FRAMED, "item": READING[0][3]}},
    "making": {"made": {"protocol": FRAMED, "groups": [[5, 6], (7,)], "half": 3}, "cut_out": {"catch": CATCH, "item": READING[0][3]}},
    "wishes": {"parts_of": {"wish": WISH}, "deep": {"wish": WISH}, "look_wish": {"names": ["d"], "wish": WISH}},
    "wishtexts": {"show_wish": {"wish": WISH}, "read_wish": {"text": "both high d ago 2 fall d"}},
    "meaning": {"when": {"catch": CATCH, "wish": WISH}, "is_so": {"catch": CATCH, "wish": WISH, "moment": 9},
                "first_when": {"catch": CATCH, "wish": WISH, "begin": 3}},
    "papers": {"paper_holds": {"catch": CATCH, "wish": ("high", "d"), "begin": 3, "end": 5, "paper": ("line",), "truth": False}},
    "reasons": {"reason": {"catch": CATCH, "wish": WISH, "begin": 3, "end": 60}, "caught": {"catch": CATCH, "wish": WISH, "begin": 3}},
    "packets": {
        "check_of": {"kind": "rest", "numbers": [3, 4]}, "packets_in": {"items": list(READING[0]), "mark": 7, "most": 9, "check": "xor"},
        "numbers_of": {"bodies": [[1, 2], b"\x03"], "mark": 7, "most": 9, "check": "xor"}, "packed": {"numbers": [1, 255]},
        "hex_of": {"data": b"\x01\xff"}, "data_of": {"text": "01ff"}},
    "calls": {"calls_in": {"items": list(READING[0])}}, "talks": {"talks_in": {"items": list(READING[1])}},
    "stacks": {"look_stack": {"names": ["d"], "stack": STACK}, "read_stack": {"catch": CATCH, "stack": STACK},
               "settled": {"catch": CATCH, "stack": STACK}, "show_stack": {"stack": STACK}, "stack_of": {"text": "twowire c d\ncalls"}},
    "leads": {"places_of": {"reading": READING, "layer": 2, "number": 0},
              "owner_of": {"reading": READING, "layer": 1, "name": "d", "moment": 44},
              "covering": {"reading": READING, "layer": 2, "moment": 44}, "made_again": {"reading": READING, "stack": STACK, "half": 3}},
    "looking": {"fits_in": {"row": [1, 2, 1], "pattern": (("is", 1), ("gap", 0, 5))}},
    "rows": {"held": {"one": [1, 2], "other": (2,), "unlike": 3, "lack": 1, "more": 2},
             "held_right": {"one": [1, 2], "other": (2,), "some": HELD, "unlike": 3, "lack": 1, "more": 2}},
    "shifts": {"unlike_at": {"one": CATCH, "other": cut(CATCH, 3, 60), "shift": -2},
               "best_shift": {"one": CATCH, "other": cut(CATCH, 3, 60), "most": 9},
               "share": {"one": CATCH, "other": cut(CATCH, 3, 60)}},
    "alike": {"wishes_alike": {"names": ["d"], "one": WISH, "other": ("rise", "d")}, "soonest": {"names": ["d"], "wish": WISH}},
}
# Lists are told by these alone, and dicts by no function.
LISTS = {"parts_of", "fits_in"}


def calls():
    """Each function with what it is asked."""
    for file, functions in CALLS.items():
        module = importlib.import_module("wirelooker." + file)
        for name, things in functions.items():
            yield getattr(module, name), things


def kinds_in(thing):
    """The kinds of a thing and of all that is in it."""
    inner = thing if isinstance(thing, (tuple, list)) else [*thing, *thing.values()] if isinstance(thing, dict) else ()
    return {type(thing)}.union(*[kinds_in(part) for part in inner])


def some_words(chance):
    """A stack by chance, and a catch with something on it."""
    stack = some_stack(chance)
    return stack, some_stacked_catch(chance, stack)


class TestAsked(unittest.TestCase):
    def test_each_function_is_asked_here(self):
        for file, signatures in INTERFACE.items():
            if file not in ("errors", "watching", "looker", "desk", "clocked", "framed", "twowire"):
                self.assertEqual(set(CALLS[file]), {signature.split("(")[0] for signature in signatures})

    def test_by_place_and_by_name(self):
        for function, things in calls():
            kinds = {name: part.kind for name, part in inspect.signature(function).parameters.items()}
            self.assertEqual(list(kinds), list(things), function)
            placed = [name for name, kind in kinds.items() if kind is inspect.Parameter.POSITIONAL_OR_KEYWORD]
            told = function(**things)
            for many in range(len(placed) + 1):
                named = {name: things[name] for name in reversed(things) if name not in placed[:many]}
                self.assertEqual(function(*[things[name] for name in placed[:many]], **named), told)
            if len(placed) < len(kinds):
                with self.assertRaises(TypeError):
                    function(*things.values())
            for name, part in inspect.signature(function).parameters.items():
                self.assertEqual(part.default is not part.empty, name not in placed, (function, name))
            function(**{name: things[name] for name in placed})

    def test_what_is_handed_in_and_told_stays(self):
        for function, things in calls():
            kept = copy.deepcopy(things)
            first = function(**things)
            before = copy.deepcopy(first)
            self.assertEqual(things, kept, function)
            for thing in things.values():
                if isinstance(thing, list):
                    thing.append(thing[0])
                    thing.pop(0)
            self.assertEqual(first, before, function)
            things.update(copy.deepcopy(kept))
            if isinstance(first, list):
                first.clear()
            again = function(**{name: tuple(thing) if isinstance(thing, list) else thing for name, thing in things.items()})
            self.assertEqual(again, before, function)
            self.assertEqual(kinds_in(again) - {tuple, str, int, bool, bytes, type(None)},
                             {list} if function.__name__ in LISTS else set(), function)

    def test_objects_are_asked_by_name_too(self):
        watcher = Watcher(names=["d"], wish=("high", "d"))
        self.assertEqual(watcher.feed(piece=CATCH), when(CATCH, ("high", "d")))
        looker = Looker(names=["d"], most=2)
        self.assertEqual((looker.feed(piece=CATCH), looker.watch(wish=WISH), looker.stack(layers=STACK)), (None, 0, 1))
        self.assertEqual(looker.several(deeds=[("drop", 0)], whole=True), [None])
        self.assertIsNone(looker.drop(number=1))
        self.assertEqual(kinds_in([looker.kept(), looker.log(), looker.catch(), looker.back()]), {list, dict, tuple, str, int, bool})
        desk = Desk(most=2)
        self.assertEqual(desk.say(row="lines d"), "1 lines")
        for function, things in ((Looker, (["d"], 2)), (Desk, (2,)), (looker.several, ([], True))):
            with self.assertRaises(TypeError):
                function(*things)


class TestPromise(Refusals, unittest.TestCase):
    def test_a_paper_or_the_first_moment(self):
        chance = random.Random(3)
        for _ in range(120):
            stack, catch = some_words(chance)
            catch = cut(catch, 0, min(moments_of(catch), chance.choice((30, 90))))
            if moments_of(catch) == 0:
                continue
            wish = chance.choice((("read", stack[0], 0, 255), ("within", 3, ("rise", "d")), ("nth", 2, ("low", "d")),
                                  ("since", ("high", "d"), ("fall", "d")), ("not", ("held", 3, ("high", "d"))),
                                  ("ago", 4, ("edges", "d", 3, 1, 2)), ("pulse", "d", 1, 1, 4)))
            begin = chance.randrange(moments_of(catch))
            end = chance.randint(begin + 1, moments_of(catch))
            so = truths(catch, wish)
            told = reason(catch, wish, begin, end)
            if all(so[begin:end]):
                self.assertEqual(told[0], "so")
                self.assertIs(paper_holds(catch, wish, begin, end, told[1]), True)
            else:
                first = begin + so[begin:end].index(False)
                self.assertEqual(told[:2], ("fails", first))
                self.assertIs(paper_holds(catch, wish, first, first + 1, told[2], truth=False), True)
                self.assertIs(paper_holds(catch, wish, begin, end, told[2]), False)
            told = caught(catch, wish, begin=begin)
            self.assertEqual(told[1] if told[0] == "caught" else None, first_when(catch, wish, begin=begin))
            self.assertEqual(told[0] == "caught", True in so[begin:])
            if told[0] == "caught":
                _, moment, paper, ahead = told
                self.assertIs(paper_holds(catch, wish, moment, moment + 1, paper), True)
                self.assertEqual(ahead is None, moment == begin)
            # Whatever is handed in as a paper, what is let by is true.
            for paper in (told[-1], told[-2] if told[0] == "caught" else ("line",), ("early",), ("not", ("line",))):
                for truth in (True, False):
                    if paper_holds(catch, wish, begin, end, paper, truth=truth):
                        self.assertEqual(set(so[begin:end]), {truth})

    def test_whatever_pieces_they_come_in(self):
        chance = random.Random(30)
        for _ in range(60):
            stack, catch = some_words(chance)
            names = [name for name, _ in catch]
            wish = ("either", ("read", stack[0], 5, 255), ("held", 3, ("low", "d")))
            watcher, looker, desk = Watcher(names, wish), Looker(names), Desk()
            desk.say("lines " + " ".join(names))
            self.assertEqual(desk.say("watch " + show_wish(wish)), "kept 0")
            looker.several([("watch", wish), ("stack", stack)])
            ahead, fed, begin = looker.read(1), (), 0
            for end in [*sorted(chance.randint(0, moments_of(catch)) for _ in range(3)), moments_of(catch)]:
                piece = cut(catch, begin, end)
                fed += watcher.feed(piece)
                looker.feed(piece)
                desk.say("feed " + " ; ".join(" ".join([name, *[f"{level}x{long}" for level, long in line]]) for name, line in piece))
                for one, other in zip(ahead, looker.read(1)):
                    self.assertEqual(other[:len(one)], one)
                ahead, begin = looker.read(1), end
            spans = when(catch, wish)
            self.assertEqual((watcher.when(), looker.when(0), looker.read(1)), (spans, spans, settled(catch, stack)))
            self.assertEqual({moment for first, end in fed for moment in range(first, end)},
                             {moment for first, end in spans for moment in range(first, end)})
            self.assertEqual(desk.say("when 0"), " ".join(f"{first}-{end}" for first, end in spans) or "none")
            self.assertEqual([watcher.first(), looker.first(0)], [first_when(catch, wish)] * 2)

    def test_each_leads_to_its_moments_and_back(self):
        chance = random.Random(31)
        for _ in range(60):
            stack, catch = some_words(chance)
            reading = read_stack(catch, stack)
            for layer, items in enumerate(reading):
                for number, item in enumerate(items):
                    places = places_of(reading, layer, number)
                    self.assertEqual(set(places), slow_places(reading, layer, number))
                    for name, moment in places[:1] + places[-1:]:
                        self.assertEqual(owner_of(reading, layer, name, moment), number)
                        self.assertIn(number, covering(reading, layer, moment))
            for item in reading[0]:
                self.assertIs(item_holds(catch, stack[0], item), True)
                if item[0] == "word" and stack[0][0] != "twowire":
                    self.alone(catch, stack[0], item)
            if len(stack) > 1 and stack[1][0] == "packets":
                _, mark, most, check = stack[1]
                for kind, what, begin, end, parts in reading[1]:
                    if kind == "packet":
                        self.assertEqual(packets_in([reading[0][part] for part in parts], mark, most=most, check=check),
                                         ((kind, what, begin, end, tuple(range(len(parts)))),))

    def alone(self, catch, protocol, item):
        """Looks at a word clocked or framed: the levels of its bits, and how it is read alone."""
        kind, number, begin, end, places = item
        levels = [levels_of(cut(((name, line_in(catch, name)),), moment, moment + 1)[0][1])[0] for name, moment in places]
        if protocol[0] == "framed":
            levels = levels[1:1 + protocol[3]][::-1]
        elif protocol[6] == "low":
            levels = levels[::-1]
        self.assertEqual(int("".join(map(str, levels)), 2), number)
        told = tuple((name, moment - begin + 1) for name, moment in places)
        self.assertEqual(read_words(cut_out(catch, item), protocol), ((kind, number, 1, end - begin + 1, told),))

    def test_what_is_made_is_read(self):
        chance = random.Random(32)
        for _ in range(60):
            stack, catch = some_words(chance)
            numbers = [chance.randrange(256) for _ in range(chance.randrange(5))]
            groups = [[(number, True) for number in numbers] if stack[0][0] == "twowire" else numbers]
            read = read_words(made(stack[0], groups), stack[0])
            self.assertEqual([item[1] for item in read if item[0] == "word"], numbers)
            self.assertNotIn("torn", [item[0] for item in read])
            bodies = [tuple(numbers[:at]) for at in range(len(numbers))]
            told = numbers_of(bodies, 9, check="rest")
            groups = [[(number, True) for number in told] if stack[0][0] == "twowire" else told]
            packets = packets_in(read_words(made(stack[0], groups), stack[0]), 9, check="rest")
            self.assertEqual([(item[0], item[1]) for item in packets], [("packet", body) for body in bodies])
            reading = read_stack(catch, stack)
            again = read_stack(made_again(reading, stack), stack)
            if "torn" not in [item[0] for items in reading for item in items]:
                self.assertEqual([[item[:2] for item in items] for items in again[1:]],
                                 [[item[:2] for item in items] for items in reading[1:]])
            self.assertEqual([item[:2] for item in again[0] if item[0] in ("word", "mute")],
                             [item[:2] for item in reading[0] if item[0] in ("word", "mute")])

    def test_small_wishes(self):
        chance = random.Random(33)
        few = [catch_of({"a": levels}) for levels in itertools.product((0, 1), repeat=5)]
        wishes = [read_wish(text) for text in ("high a", "not low a", "rise a", "both high a ago 1 low a", "within 1 high a", "yes",
                                               "edges a 2 0 2", "held 2 low a", "nth 1 high a", "since high a rise a")]
        for _ in range(60):
            one, other = chance.sample(wishes, 2)
            told = wishes_alike(["a"], one, other)
            differ = [t for catch in few for t in range(5) if is_so(catch, one, t) != is_so(catch, other, t)]
            self.assertEqual(told == ("same",), not differ)
            if differ:
                self.assertEqual(moments_of(told[1]), min(differ) + 1)
            first = [first_when(catch, one) for catch in few]
            self.assertEqual(moments_of(soonest(["a"], one)), 1 + min(moment for moment in first if moment is not None))

    def test_rows_and_shifts(self):
        chance = random.Random(34)
        for _ in range(60):
            one, other = some_words(chance)[1], some_catch(chance, "cd", 40)
            numbers = [[item[1] for item in read_words(catch, ("twowire", "c", "d")) if item[0] == "word"]
                       for catch in (some_catch(chance, "cd", 300, 2), other)]
            cost, steps, table = held(*numbers)
            self.assertIs(held_right(*numbers, (cost, steps, table)), True)
            self.assertIs(held_right(*numbers, (cost - 1, steps, table)), False)
            other = some_catch(chance, [name for name, _ in one], chance.randrange(60))
            shift, many = best_shift(one, other, most=9)
            for tried in range(-9, 10):
                self.assertLessEqual((many, abs(shift), shift), (unlike_at(one, other, shift=tried), abs(tried), tried))
            self.assertEqual(many, unlike_at(one, other, shift=shift))

    def test_what_is_refused(self):
        chance = random.Random(35)
        for _ in range(40):
            stack, catch = some_words(chance)
            looker = Looker([name for name, _ in catch], most=1)
            looker.several([("feed", catch), ("watch", ("high", "d")), ("stack", stack)])
            before, rows = (looker.catch(), looker.kept(), looker.read(1), len(looker)), looker.log()
            for refused in (lambda: looker.feed(catch), lambda: looker.feed(None), lambda: looker.watch(None), lambda: looker.stack(())):
                with self.assertRaises(WireError):
                    refused()
                self.assertIs(looker.is_open(), True)
            self.assertEqual(looker.log(), rows)
            self.refused(Broken, {"at": 1}, looker.several, [("drop", 1), ("feed", catch), ("drop", 0)])
            self.assertEqual((looker.catch(), looker.kept(), looker.read(1), len(looker)), before)
            self.assertEqual(looker.log(), [*rows, ("begin", 3), ("end", 0)])
            self.refused(Broken, {"at": 1}, looker.several, [("drop", 1), ("feed", catch), ("drop", 0)], whole=False)
            self.assertEqual((looker.log()[-3:], looker.kept()),
                             ([("begin", 3), ("drop", 1), ("end", 1)], {0: ("watch", ("high", "d"))}))
            self.assertIs(looker.is_open(), True)

    def test_wishes_by_chance_on_all_that_was_read(self):
        chance = random.Random(36)
        for _ in range(40):
            catch = some_catch(chance, "cdg", 24, 3)
            wish = some_wish(chance, "cdg", 2)
            self.assertEqual([is_so(catch, wish, t) for t in range(24)], truths(catch, wish))
            told = reason(catch, wish, 0, 24)
            self.assertEqual(told[0] == "so", when(catch, wish) == ((0, 24),))


if __name__ == "__main__":
    unittest.main()
