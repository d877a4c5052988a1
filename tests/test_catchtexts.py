"""Point 7: the texts of catches."""

import random
import unittest

from tests.helper import BILLION, Refusals, long_line, some_catch
from wirelooker.catches import look_catch
from wirelooker.catchtexts import read_catch, show_catch
from wirelooker.errors import NoText

NAMES = ("a", "bb", "zzzzzz", "high", "clock")


class TestCatchTexts(Refusals, unittest.TestCase):
    def both_ways(self, catch, text):
        self.assertEqual(show_catch(catch), text)
        self.assertEqual(read_catch(text), catch)
        self.assertIs(look_catch(read_catch(text)), True)

    def text_refused(self, at, text):
        self.refused(NoText, {"at": at}, read_catch, text)

    def test_told_ones(self):
        self.both_ways((("a", ((0, 3), (1, 1))),), "a 0x3 1x1")
        self.both_ways((("a", ((0, 3), (1, 1))), ("bc", ((1, 4),))), "a 0x3 1x1\nbc 1x4")
        self.both_ways((("a", ()),), "a")
        self.both_ways((("b", ()), ("a", ())), "b\na")
        self.both_ways((("a", ((1, BILLION),)),), "a 1x1000000000")
        self.both_ways((("a", ((1, 10),)), ("b", ((0, 10),))), "a 1x10\nb 0x10")
        self.assertEqual(show_catch(catch=(("a", ()),)), "a")
        self.assertEqual(read_catch(text="a"), (("a", ()),))

    def test_there_and_back(self):
        chance = random.Random(7)
        for many in range(1, 6):
            for moments in (0, 1, 2, 30, 200):
                for longest in (1, 5, 60):
                    catch = some_catch(chance, NAMES[:many], moments, longest)
                    text = show_catch(catch)
                    rows = text.split("\n")
                    self.assertEqual(len(rows), many)
                    for row, (name, line) in zip(rows, catch):
                        self.assertEqual(row.split(" "), [name] + ["%dx%d" % run for run in line])
                    self.assertEqual(read_catch(text), catch)

    def test_kinds_of_values(self):
        catch = read_catch("a 0x3 1x1")
        self.assertIs(type(catch), tuple)
        self.assertIs(type(catch[0][1][0][0]), int)
        self.assertIs(type(catch[0][1][0][1]), int)

    def test_many_runs(self):
        line = long_line(300, 7)
        text = "x " + " ".join("%dx7" % (at % 2) for at in range(300))
        self.both_ways((("x", line),), text)
        self.both_ways((("x", line), ("y", ((1, 2100),))), text + "\ny 1x2100")

    def test_rows_that_cannot_stand(self):
        for row in ("A 1x4", "abcdefg 1x4", "a1 1x4", "1x4", "- 1x4", "_ 1x4", "", " ", "a  1x4", " a 1x4", "a 1x4 ",
                    "a 1x3  0x1", "a\t1x4", "a 1x4\r", "a 01x4", "a 1x04", "a 1x0", "a 1x00", "a 1x3 0x0 1x1", "a 1x-4",
                    "a 1x+4", "a 1x4.0", "a 1x4_0", "a 1x", "a x4", "a 14", "a 1", "a 1X4", "a 1*4", "a 2x4", "a -1x4",
                    "a 1xx4", "a 1x4x", "a 1x4x1", "a 1x4a", "a 1xa", "a 1x2 1x2", "a 0x1 1x2 1x1", "a 0x2 0x2", "a 1x4,",
                    "a 1x\u0664", "a 1x\u00b2", "a 1x1000000001", "a 1x10000000000", "a 1x11111111111", "a a 1x4",
                    "a 1x4;b 1x4", "a 1x" + "4" * 5000):
            self.text_refused(0, row)
            self.text_refused(1, "b 1x4\n" + row)
            self.text_refused(1, "b 1x4\n" + row + "\nc 1x4")

    def test_names_twice(self):
        self.text_refused(1, "a 1x4\na 1x4")
        self.text_refused(2, "a 1x4\nb 1x4\na 0x4\nb 0x4")

    def test_other_numbers_of_moments(self):
        for row in ("b", "b 1x3", "b 1x5", "b 0x3 1x2", "b 1x1000000000"):
            self.text_refused(1, "a 1x4\n" + row)
            self.text_refused(2, "a 1x4\nc 0x3 1x1\n" + row)
        self.text_refused(1, "a\nb 1x1")

    def test_most_moments(self):
        self.both_ways((("a", ((0, BILLION - 1), (1, 1))),), "a 0x999999999 1x1")
        self.text_refused(0, "a 0x1000000000 1x1")
        self.text_refused(0, "a 0x1000000000 1x1\na 1x0")
        self.text_refused(0, "a 0x600000000 1x600000000\nb 0x600000000 1x600000000")

    def test_sixth_row(self):
        five = "a 1x4\nb 1x4\nc 1x4\nd 1x4\ne 1x4"
        self.assertEqual(len(read_catch(five)), 5)
        for row in ("f 1x4", "a 1x4", "", "f 1x4\ng 1x4"):
            self.text_refused(5, five + "\n" + row)
        self.text_refused(4, "a 1x4\nb 1x4\nc 1x4\nd 1x4\ne 1x3\nf 1x4")

    def test_line_feeds(self):
        self.text_refused(1, "a 1x4\n")
        self.text_refused(2, "a 1x4\nb 1x4\n")
        self.text_refused(1, "a 1x4\n\nb 1x4")
        self.text_refused(0, "\na 1x4")
        self.text_refused(1, "a\n")

    def test_text_without_signs(self):
        self.text_refused(0, "")

    def test_first_row_that_cannot_stand(self):
        self.text_refused(1, "a 1x4\nb 1x5\nc 1x0\na 1x4")
        self.text_refused(2, "a 1x4\nb 1x4\n\nA")

    def test_each_text_read_is_written_again(self):
        chance = random.Random(77)
        signs = "ab01x \n"
        read = 0
        for _ in range(20000):
            text = "".join(chance.choice(signs) for _ in range(chance.randint(0, 9)))
            try:
                catch = read_catch(text)
            except NoText as refused:
                self.assertTrue(0 <= refused.at <= text.count("\n"))
            else:
                read += 1
                self.assertEqual(show_catch(catch), text)
                self.assertIs(look_catch(catch), True)
        self.assertGreater(read, 50)


if __name__ == "__main__":
    unittest.main()
