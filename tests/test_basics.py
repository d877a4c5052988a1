"""Point 2: whole numbers and names; and numbers by figures and by bits."""

import unittest

from wirelooker.basics import bits_of, figures, is_name, is_whole, number_of, word_of


class TestBasics(unittest.TestCase):
    def test_is_whole(self):
        for thing in (0, 1, -1, 10 ** 40):
            self.assertIs(is_whole(thing), True)
        for thing in (True, False, None, "", "1", (), (1,)):
            self.assertIs(is_whole(thing), False)

    def test_is_name(self):
        for thing in ("a", "z", "abcdef", "zzzzzz", "rise"):
            self.assertIs(is_name(thing), True)
        for thing in ("", "abcdefg", "A", "a1", "a b", "a\n", "`", "{", "-", None, 1, True, (), ("a",)):
            self.assertIs(is_name(thing), False)

    def test_word_of(self):
        for thing in (("a",), ("a", 1), ("a", "b")):
            self.assertEqual(word_of(thing), "a")
        for thing in ((), (1, "a"), (("a",),), (None,), "a", "", 1, None, True, ["a"]):
            self.assertIsNone(word_of(thing))

    def test_figures(self):
        for number in (0, 1, 9, 10, 1000000000, 9999999999):
            self.assertEqual(figures(str(number)), number)
        for word in ("", "00", "01", "10000000000", "+1", "-1", "1.0", "1_0", " 1", "1 ", "a", "1a", "/", ":", "\u00b2",
                     "\u0664", "-"):
            self.assertIsNone(figures(word))

    def test_number_of(self):
        self.assertEqual(number_of([]), 0)
        for number in range(64):
            self.assertEqual(number_of([int(sign) for sign in format(number, "b")]), number)

    def test_bits_of(self):
        self.assertEqual(bits_of(0, 0), [])
        for number in range(64):
            self.assertEqual(bits_of(number, 6), [int(sign) for sign in format(number, "06b")])
        self.assertEqual(bits_of(5, 16), [0] * 13 + [1, 0, 1])


if __name__ == "__main__":
    unittest.main()
