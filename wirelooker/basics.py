"""What several files of the package need: the kinds of things, and numbers by figures and by bits."""


def is_whole(thing):
    """Whether a thing is a whole number; a truth is none."""
    return isinstance(thing, int) and not isinstance(thing, bool)


def is_name(thing):
    """Whether a thing is a name: a text of one to six small letters."""
    return isinstance(thing, str) and 1 <= len(thing) <= 6 and all(["a" <= sign <= "z" for sign in thing])


def word_of(thing):
    """The word that a tuple begins with, None of a thing that is no such tuple."""
    if isinstance(thing, tuple) and thing and isinstance(thing[0], str):
        return thing[0]
    return None


def figures(word):
    """The number that a word writes in at most ten figures, no nought ahead of others; None if it writes none."""
    if not 1 <= len(word) <= 10 or (word[0] == "0" and word != "0"):
        return None
    if not all(["0" <= sign <= "9" for sign in word]):
        return None
    return int(word)


def number_of(levels):
    """The number whose bits are these levels, the highest first."""
    number = 0
    for level in levels:
        number = number * 2 + level
    return number


def bits_of(number, many):
    """The levels of a number's so many bits, the highest first, a list."""
    return [number >> at & 1 for at in range(many)][::-1]
