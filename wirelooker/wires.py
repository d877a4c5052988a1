"""Wires: a line of a catch by its name, ready to be asked for many levels."""

from wirelooker.catches import line_in
from wirelooker.lines import ends_of, level_by, long_of


class Wire:
    """The line of a name in a catch; it makes the items that have their places on it."""

    def __init__(self, catch, name):
        self.name = name
        self.line = line_in(catch, name)
        self.moments = long_of(self.line)
        # Counted once: a long catch is asked for as many levels as it has bits.
        self.ends = ends_of(self.line)

    def levels(self, moments):
        """The levels at these moments of the line, a list."""
        return [level_by(self.line, self.ends, moment) for moment in moments]

    def item(self, kind, what, begin, end, moments):
        """The item that lies from begin on below end, its places at these moments."""
        return (kind, what, begin, end, tuple([(self.name, moment) for moment in moments]))

    def item_over(self, kind, what, moments):
        """The item that lies just over these moments, one at least, from the first to the last."""
        return self.item(kind, what, moments[0], moments[-1] + 1, moments)
