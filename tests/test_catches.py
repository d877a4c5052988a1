"""Point 6: catches."""

import random
import unittest

from tests.helper import BILLION, Refusals, catch_of, levels_of, long_line, some_catch
from wirelooker.catches import cut, just, line_in, look_catch, moments_of, put_behind
from wirelooker.errors import NoCatch, NoLine

A = ((0, 2), (1, 1))
B = ((1, 3),)
FIVE = ("a", "bb", "zzzzzz", "high", "clock")


def rows_of(catch):
    return {name: levels_of(line) for name, line in catch}


class TestLook(Refusals, unittest.TestCase):
    def look_refused(self, word, at, thing):
        self.refused(NoCatch, {"word": word, "at": at}, look_catch, thing)

    def test_good_ones(self):
        chance = random.Random(6)
        for many in range(1, 6):
            self.assertIs(look_catch(tuple((name, ()) for name in FIVE[:many])), True)
            for moments in (1, 2, 30):
                self.assertIs(look_catch(some_catch(chance, FIVE[:many], moments)), True)
        self.assertIs(look_catch(catch=(("a", A), ("b", B))), True)
        self.assertIs(look_catch((("a", ((0, 10 ** 30),)), ("b", ((1, 10 ** 30 - 1), (0, 1))))), True)

    def test_form(self):
        others = [
            None, True, 0, -7, "", "abcde", (), [("a", A)], (("a", A), ["b", B]), tuple((name, ()) for name in "abcdef"),
            ("a",), ("a", A), (("a",),), (("a", A, A),), ((A, "a"),), ((None, A),), ((1, A),), ((True, A),), ((("a",), A),),
            (("a", A), ("b",)), (("a", A), None), (("a", A), "bB"), ("ab",), (("a", A), ()), {"a": A},
        ]
        for thing in others:
            self.look_refused("form", 0, thing)

    def test_form_is_due_ahead_of_all_else(self):
        self.look_refused("form", 0, (("A", None), ("b", B), (3, A)))
        self.look_refused("form", 0, tuple(("A", None) for _ in range(6)))

    def test_name(self):
        for name in ("", "abcdefg", "A", "a1", "a b", "a-", "_", "\xe4", "\u00aa", " a", "a\n", "`", "{", "aB"):
            self.look_refused("name", 0, ((name, A),))
            self.look_refused("name", 1, (("a", A), (name, B)))
        self.look_refused("name", 1, (("a", A), ("a", B)))
        self.look_refused("name", 2, (("a", A), ("b", B), ("a", A), ("b", A)))

    def test_line(self):
        for line in (None, True, 3, "", "01", [], ((0, 0),), ((0, 1), (0, 2)), ((True, 3),), ((0, True),), ((2, 3),)):
            self.look_refused("line", 0, (("a", line),))
            self.look_refused("line", 2, (("a", A), ("b", B), ("c", line)))

    def test_long(self):
        for line in ((), ((0, 2),), ((0, 4),), ((0, 3), (1, 1))):
            self.look_refused("long", 1, (("a", A), ("b", line)))
            self.look_refused("long", 4, (("a", A), ("b", B), ("c", A), ("d", A), ("e", line)))
        self.look_refused("long", 1, (("a", ()), ("b", ((0, 1),))))

    def test_the_one_due_first(self):
        self.look_refused("name", 0, (("", None),))
        self.look_refused("name", 1, (("a", A), ("a", None)))
        self.look_refused("name", 1, (("a", A), ("a", ((0, 9),))))
        self.look_refused("line", 0, (("a", None), ("a", A)))
        self.look_refused("line", 1, (("a", A), ("b", ((0, 5), (0, 5))), ("c", ((0, 9),))))
        self.look_refused("long", 1, (("a", A), ("b", ()), ("", None)))
        self.look_refused("long", 1, (("a", A), ("b", ()), ("b", A)))


class TestCatches(Refusals, unittest.TestCase):
    def setUp(self):
        self.chance = random.Random(66)

    def test_moments_of(self):
        self.assertEqual(moments_of((("a", ()),)), 0)
        self.assertEqual(moments_of(catch=(("a", A), ("b", B))), 3)
        for many in (1, 5, 40):
            self.assertEqual(moments_of(some_catch(self.chance, FIVE, many)), many)

    def test_line_in(self):
        catch = (("a", A), ("b", B))
        self.assertEqual(line_in(catch, "a"), A)
        self.assertEqual(line_in(catch=catch, name="b"), B)
        for name in ("c", "", "ab"):
            self.refused(NoLine, {"name": name}, line_in, catch, name)

    def test_put_behind(self):
        for _ in range(100):
            names = FIVE[:self.chance.randint(1, 5)]
            one = some_catch(self.chance, names, self.chance.randint(0, 12))
            other = some_catch(self.chance, names, self.chance.randint(0, 12))
            told = put_behind(one, other)
            rows = rows_of(one)
            for name, levels in rows_of(other).items():
                rows[name] = rows[name] + levels
            self.assertEqual(told, catch_of(rows))
            self.assertEqual(tuple(name for name, _ in told), names)
        self.assertEqual(put_behind(one=(("a", A),), other=(("a", A),)), (("a", ((0, 2), (1, 1), (0, 2), (1, 1))),))

    def test_put_behind_refused(self):
        def named(text):
            return tuple((name, A) for name in text)

        for one, other, at in (("a", "b", 0), ("ab", "ba", 0), ("abc", "acb", 1), ("abc", "ab", 2), ("abc", "a", 1),
                               ("ab", "abc", 2), ("a", "abcde", 1), ("abc", "xb", 0), ("abc", "abd", 2)):
            self.refused(NoCatch, {"word": "name", "at": at}, put_behind, named(one), named(other))

    def test_cut(self):
        for _ in range(60):
            many = self.chance.randint(0, 12)
            catch = some_catch(self.chance, FIVE[:self.chance.randint(1, 5)], many)
            for begin in range(many + 1):
                for end in range(begin, many + 1):
                    want = {name: levels[begin:end] for name, levels in rows_of(catch).items()}
                    self.assertEqual(cut(catch, begin, end), catch_of(want))
        self.assertEqual(cut(catch=(("a", A),), begin=2, end=3), (("a", ((1, 1),)),))

    def test_just(self):
        catch = (("a", A), ("b", B), ("c", A))
        self.assertEqual(just(catch, ["c", "a"]), (("c", A), ("a", A)))
        self.assertEqual(just(catch, ("b",)), (("b", B),))
        self.assertEqual(just(catch=catch, names=("a", "b", "c")), catch)
        self.refused(NoLine, {"name": "x"}, just, catch, ("a", "x", "y"))
        self.refused(NoLine, {"name": "y"}, just, catch, ["y", "x", "a"])

    def test_nothing_handed_in_is_changed(self):
        names = ["c", "a"]
        catch = (("a", A), ("c", B))
        just(catch, names)
        put_behind(catch, catch)
        self.assertEqual(names, ["c", "a"])
        self.assertEqual(catch, (("a", ((0, 2), (1, 1))), ("c", ((1, 3),))))

    def test_far_ones_quickly(self):
        line = long_line(80, BILLION // 80)
        catch = tuple((name, line) for name in FIVE)
        self.assertIs(self.quickly(look_catch, catch), True)
        self.assertEqual(self.quickly(moments_of, catch), BILLION)
        self.assertEqual(self.quickly(cut, catch, 5, 7), tuple((name, ((0, 2),)) for name in FIVE))
        self.assertEqual(moments_of(self.quickly(put_behind, catch, catch)), 2 * BILLION)


if __name__ == "__main__":
    unittest.main()
