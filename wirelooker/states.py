"""States: how a Looker stands between its deeds. A state is never changed, so the ones ahead can be gone back to."""

from wirelooker.basics import is_whole
from wirelooker.catches import put_behind
from wirelooker.errors import Full, NoWatch


class State:
    """The whole catch, how many pieces came, what is kept, from numbers to (word, thing), and the next number."""

    def __init__(self, whole, pieces, entries, number):
        self.whole = whole
        self.pieces = pieces
        self.entries = entries
        self.number = number

    def fed(self, piece, most):
        """The state behind a piece; refused with NoCatch where it has other names, and with Full."""
        whole = put_behind(self.whole, piece)
        if self.pieces >= most:
            raise Full(most)
        return State(whole, self.pieces + 1, self.entries, self.number)

    def keeping(self, word, thing):
        """The state with a thing kept under the next number."""
        return State(self.whole, self.pieces, {**self.entries, self.number: (word, thing)}, self.number + 1)

    def without(self, number):
        """The state without what is kept under a number, refused with NoWatch where nothing is."""
        if not self._keeps(number):
            raise NoWatch(number)
        entries = {there: entry for there, entry in self.entries.items() if there != number}
        return State(self.whole, self.pieces, entries, self.number)

    def thing_at(self, word, number):
        """The thing of this word that is kept under a number, refused with NoWatch where none is."""
        if not self._keeps(number) or self.entries[number][0] != word:
            raise NoWatch(number)
        return self.entries[number][1]

    def _keeps(self, number):
        return is_whole(number) and number in self.entries
