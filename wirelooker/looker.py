"""Lookers: lines that come in pieces, with wishes and stacks on them, over many calls."""

from wirelooker.basics import word_of
from wirelooker.catches import look_catch, moments_of, names_of
from wirelooker.errors import Broken, NoWatch, WireError
from wirelooker.meaning import first_when, whens
from wirelooker.stacks import look_stack, settled
from wirelooker.states import State
from wirelooker.wishes import look_wish

PIECES = 40
DEEDS = ("feed", "watch", "stack", "drop")


class Looker:
    """Keeps pieces of lines of these names, wishes and stacks, and each state ahead of a deed that stands."""

    def __init__(self, names, *, most=PIECES):
        whole = tuple([(name, ()) for name in names])
        look_catch(whole)
        self.most = most
        # The last one is how it stands now; a deed is taken back by going back to the one ahead.
        self.states = [State(whole, 0, {}, 0)]
        self.rows = []

    def feed(self, piece):
        """Puts a piece behind those that came, refused with NoCatch, then with Full."""
        look_catch(piece)
        state = self.states[-1].fed(piece, self.most)
        self._stand(state, ("feed", moments_of(piece)))

    def watch(self, wish):
        """Keeps a wish, and tells its number; refused with NoWish."""
        look_wish(names_of(self.catch()), wish)
        return self._keep("watch", wish)

    def stack(self, layers):
        """Keeps a stack, and tells its number; refused with NoStack."""
        look_stack(names_of(self.catch()), layers)
        return self._keep("stack", layers)

    def drop(self, number):
        """Keeps a wish or a stack no more, refused with NoWatch."""
        self._stand(self.states[-1].without(number), ("drop", number))

    def back(self):
        """Takes the last deed that stands back; tells whether there was one."""
        if len(self.states) == 1:
            return False
        self.states.pop()
        self.rows.append(("back",))
        return True

    def several(self, deeds, *, whole=True):
        """Does several deeds, and tells what each told; refused with Broken, and those ahead then stand or not."""
        standing = len(self.states)
        self.rows.append(("begin", len(deeds)))
        begun = len(self.rows)
        told = []
        for deed in deeds:
            if not self._does(deed, told):
                break
        done = len(told)
        if done < len(deeds) and whole:
            del self.states[standing:]
            del self.rows[begun:]
        self.rows.append(("end", len(self.states) - standing))
        if done < len(deeds):
            raise Broken(done)
        return told

    def catch(self):
        """The whole catch so far."""
        return self.states[-1].whole

    def when(self, number):
        """The spans so far at which a wish is so, refused with NoWatch."""
        return whens(self.catch(), self._wish_at(number))[0]

    def first(self, number):
        """The first moment at which a wish is so, None so far; refused with NoWatch."""
        return first_when(self.catch(), self._wish_at(number))

    def read(self, number):
        """What is settled so far by a stack, refused with NoWatch."""
        return settled(self.catch(), self.states[-1].thing_at("stack", number))

    def kept(self):
        """What is kept, a dict from numbers, rising, to ("watch", wish) or ("stack", stack)."""
        return dict(self.states[-1].entries)

    def log(self):
        """What was done, a list of rows."""
        return list(self.rows)

    def is_open(self):
        """True wherever it can be asked, for no deed calls anything from which it could be."""
        return True

    def __len__(self):
        return len(range(self.states[-1].pieces))

    def __eq__(self, other):
        if not isinstance(other, Looker):
            return False
        return self.catch() == other.catch() and self.kept() == other.kept()

    def __repr__(self):
        return f"Looker({len(self.catch())}, {moments_of(self.catch())})"

    def _stand(self, state, row):
        self.states.append(state)
        self.rows.append(row)

    def _keep(self, word, thing):
        number = self.states[-1].number
        self._stand(self.states[-1].keeping(word, thing), (word, number))
        return number

    def _wish_at(self, number):
        return self.states[-1].thing_at("watch", number)

    def _does(self, deed, told):
        """Whether one of several deeds is done; what it told is then put behind what was told ahead."""
        if word_of(deed) not in DEEDS or len(deed) != 2:
            return False
        try:
            told.append(self._told_by(deed))
        except (WireError, NoWatch):
            return False
        return True

    def _told_by(self, deed):
        """What a deed of several tells when it is done alone."""
        word, thing = deed
        if word == "feed":
            return self.feed(thing)
        if word == "watch":
            return self.watch(thing)
        if word == "stack":
            return self.stack(thing)
        return self.drop(thing)
