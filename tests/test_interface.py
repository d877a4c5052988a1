"""The interface of the files that are there: names, arguments, and the file in which each is defined."""

import importlib
import inspect
import unittest

INTERFACE = {
    "errors": ("NoCatch(word, at)", "NoProtocol(word)", "NoNumber(group, at)", "NoWish(word, at)", "NoText(at)",
               "NoStack(layer, word)", "Full(most)", "Broken(at)", "NoLine(name)", "NoMoment(moment)",
               "NoItem(layer, number)", "NoWatch(number)"),
    "spans": ("spans_of(pairs)", "both_of(one, other)", "either_of(one, other)", "others(some, below)", "later(some, n)",
              "grown(some, n)", "worn(some, n)", "between(some, begin, end)", "is_in(some, moment)", "how_many(some)",
              "first_of(some)"),
    "lines": ("is_line(thing)", "long_of(line)", "level_at(line, moment)", "highs(line)", "line_by(some, long)",
              "rises(line)", "falls(line)", "joined(one, other)", "stretch(line, begin, end)", "turned(line)",
              "slowed(line, times)"),
    "catches": ("look_catch(catch)", "moments_of(catch)", "line_in(catch, name)", "put_behind(one, other)",
                "cut(catch, begin, end)", "just(catch, names)"),
    "catchtexts": ("show_catch(catch)", "read_catch(text)"),
    "protocols": ("look_protocol(names, protocol)", "show_protocol(protocol)", "read_protocol(text)"),
    "clocked": ("clocked_items(catch, protocol)",),
    "framed": ("framed_items(catch, protocol)",),
    "twowire": ("twowire_items(catch, protocol)",),
}


class TestInterface(unittest.TestCase):
    def test_names_and_arguments(self):
        for file, signatures in INTERFACE.items():
            module = importlib.import_module("wirelooker." + file)
            for signature in signatures:
                name = signature.split("(")[0]
                told = getattr(module, name)
                self.assertEqual(told.__module__, "wirelooker." + file)
                self.assertEqual(name + str(inspect.signature(told)), signature)


if __name__ == "__main__":
    unittest.main()
