"""The interface of the files that are there: names, arguments, and the file in which each is defined."""

import importlib
import inspect
import unittest

INTERFACE = {
    "errors": ("NoCatch(word, at)", "NoProtocol(word)", "NoNumber(group, at)", "NoWish(word, at)", "NoText(at)",
               "NoStack(layer, word)", "Full(most)", "Broken(at)", "NoLine(name)", "NoMoment(moment)",
               "NoItem(layer, number)", "NoWatch(number)"),
    "spans": ("spans_of(pairs)", "both_of(one, other)", "either_of(one, other)", "others(some, below)", "later(some, n)",
              "grown(some, n)", "worn(some, n)", "between(some, begin, end)", "is_in(some, moment)", "how_many(some)",
              "first_of(some)"),
    "lines": ("is_line(thing)", "long_of(line)", "level_at(line, moment)", "highs(line)", "line_by(some, long)",
              "rises(line)", "falls(line)", "joined(one, other)", "stretch(line, begin, end)", "turned(line)",
              "slowed(line, times)"),
    "catches": ("look_catch(catch)", "moments_of(catch)", "line_in(catch, name)", "put_behind(one, other)",
                "cut(catch, begin, end)", "just(catch, names)"),
    "catchtexts": ("show_catch(catch)", "read_catch(text)"),
    "protocols": ("look_protocol(names, protocol)", "show_protocol(protocol)", "read_protocol(text)"),
    "clocked": ("clocked_items(catch, protocol)",),
    "framed": ("framed_items(catch, protocol)",),
    "twowire": ("twowire_items(catch, protocol)",),
    "reading": ("read_words(catch, protocol)", "item_holds(catch, protocol, item)"),
    "making": ("made(protocol, groups, *, half=2)", "cut_out(catch, item)"),
    "wishes": ("parts_of(wish)", "deep(wish)", "look_wish(names, wish)"),
    "wishtexts": ("show_wish(wish)", "read_wish(text)"),
    "meaning": ("when(catch, wish)", "is_so(catch, wish, moment)", "first_when(catch, wish, *, begin=0)"),
    "papers": ("paper_holds(catch, wish, begin, end, paper, *, truth=True)",),
    "reasons": ("reason(catch, wish, begin, end)", "caught(catch, wish, *, begin=0)"),
    "watching": ("Watcher(names, wish)",),
    "packets": ("check_of(kind, numbers)", "packets_in(items, mark, *, most=255, check='sum')",
                "numbers_of(bodies, mark, *, most=255, check='sum')", "packed(numbers)", "hex_of(data)", "data_of(text)"),
    "calls": ("calls_in(items)",),
    "talks": ("talks_in(items)",),
    "stacks": ("look_stack(names, stack)", "read_stack(catch, stack)", "settled(catch, stack)", "show_stack(stack)",
               "stack_of(text)"),
    "leads": ("places_of(reading, layer, number)", "owner_of(reading, layer, name, moment)",
              "covering(reading, layer, moment)", "made_again(reading, stack, *, half=2)"),
    "looking": ("fits_in(row, pattern)",),
    "rows": ("held(one, other, *, unlike=1, lack=1, more=1)", "held_right(one, other, some, *, unlike=1, lack=1, more=1)"),
    "shifts": ("unlike_at(one, other, *, shift=0)", "best_shift(one, other, *, most=1000)", "share(one, other)"),
    "looker": ("Looker(names, *, most=40)",),
    "alike": ("wishes_alike(names, one, other)", "soonest(names, wish)"),
    "desk": ("Desk(*, most=40)",),
}
VALUES = {"making": {"HALF": 2}, "packets": {"MOST": 255}, "leads": {"HALF": 2}, "rows": {"UNLIKE": 1, "LACK": 1, "MORE": 1},
          "shifts": {"FAR": 1000}, "looker": {"PIECES": 40}, "desk": {"PIECES": 40}}
METHODS = {
    "watching": {"Watcher": ("feed(self, piece)", "when(self)", "first(self)", "copied(self)", "__len__(self)")},
    "looker": {"Looker": (
        "feed(self, piece)", "watch(self, wish)", "stack(self, layers)", "drop(self, number)", "back(self)",
        "several(self, deeds, *, whole=True)", "catch(self)", "when(self, number)", "first(self, number)", "read(self, number)",
        "kept(self)", "log(self)", "is_open(self)", "__len__(self)", "__eq__(self, other)", "__repr__(self)")},
    "desk": {"Desk": ("say(self, row)", "__len__(self)")},
}


class TestInterface(unittest.TestCase):
    def test_names_and_arguments(self):
        for file, signatures in INTERFACE.items():
            module = importlib.import_module("wirelooker." + file)
            for signature in signatures:
                name = signature.split("(")[0]
                told = getattr(module, name)
                self.assertEqual(told.__module__, "wirelooker." + file)
                self.assertEqual(name + str(inspect.signature(told)), signature)

    def test_values(self):
        for file, values in VALUES.items():
            module = importlib.import_module("wirelooker." + file)
            self.assertEqual({name: getattr(module, name) for name in values}, values)

    def test_methods(self):
        for file, classes in METHODS.items():
            for kind, signatures in classes.items():
                own = vars(getattr(importlib.import_module("wirelooker." + file), kind))
                for signature in signatures:
                    name = signature.split("(")[0]
                    self.assertEqual(name + str(inspect.signature(own[name])), signature)


if __name__ == "__main__":
    unittest.main()
