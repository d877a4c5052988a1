"""Watchers: wishes told of catches that come in pieces."""

from wirelooker.catches import moments_of, put_behind
from wirelooker.meaning import whens
from wirelooker.spans import between, first_of
from wirelooker.wishes import look_wish


class Watcher:
    """Tells when a wish is so in the pieces that came, put together; the wish is refused with NoWish."""

    def __init__(self, names, wish):
        look_wish(names, wish)
        self.wish = wish
        self.whole = tuple([(name, ()) for name in names])
        self.spans = ()

    def feed(self, piece):
        """The spans of a piece's moments at which the wish is so, refused with NoCatch where it has other names."""
        whole = put_behind(self.whole, piece)
        moments = len(self)
        self.whole = whole
        self.spans = whens(whole, self.wish)[0]
        return between(self.spans, moments, len(self))

    def when(self):
        """The spans of all moments so far at which the wish is so."""
        return self.spans

    def first(self):
        """The first moment at which the wish is so, None so far."""
        return first_of(self.spans)

    def copied(self):
        """A Watcher that stands as this one, and goes on by itself."""
        other = Watcher([name for name, _ in self.whole], self.wish)
        other.whole = self.whole
        other.spans = self.spans
        return other

    def __len__(self):
        return len(range(moments_of(self.whole)))
