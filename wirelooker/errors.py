"""The errors of the program; each keeps the things it is made of in fields of their names."""


class WireError(ValueError):
    """What the errors about catches, protocols, wishes, texts and deeds are under."""


class NoCatch(WireError):
    """A thing is no catch, or not one that fits here: why, and at which place."""

    def __init__(self, word, at):
        self.word = word
        self.at = at


class NoProtocol(WireError):
    """A thing is no protocol for the lines there are: why."""

    def __init__(self, word):
        self.word = word


class NoNumber(WireError):
    """A number to be sent is beyond: its group, or its body, and its place there."""

    def __init__(self, group, at):
        self.group = group
        self.at = at


class NoWish(WireError):
    """A thing is no wish for the lines there are: why, and at which part."""

    def __init__(self, word, at):
        self.word = word
        self.at = at


class NoText(WireError):
    """A text can't be read: the place from which on it can't."""

    def __init__(self, at):
        self.at = at


class NoStack(WireError):
    """A thing is no stack for the lines there are: the layer, and why."""

    def __init__(self, layer, word):
        self.layer = layer
        self.word = word


class Full(WireError):
    """No piece more is taken: how many there are at the most."""

    def __init__(self, most):
        self.most = most


class Broken(WireError):
    """One of several deeds is refused: its number."""

    def __init__(self, at):
        self.at = at


class NoRow(WireError):
    """What a desk is told is none of its rows."""


class NoLine(KeyError):
    """There is no line of this name."""

    def __init__(self, name):
        self.name = name


class NoMoment(IndexError):
    """There is no such moment."""

    def __init__(self, moment):
        self.moment = moment


class NoItem(IndexError):
    """There is no item of this number in this layer, or no such layer."""

    def __init__(self, layer, number):
        self.layer = layer
        self.number = number


class NoWatch(LookupError):
    """Nothing of this number is kept."""

    def __init__(self, number):
        self.number = number


class Nothing(ZeroDivisionError):
    """There are no moments of which a share could be told."""
