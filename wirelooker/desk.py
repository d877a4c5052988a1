"""Desks: a Looker that is told rows, and answers each with a text."""

from wirelooker.catches import moments_of
from wirelooker.catchtexts import read_catch, show_catch
from wirelooker.deskrows import row_of, row_text
from wirelooker.errors import NoItem, NoRow
from wirelooker.leads import owner_of, places_of
from wirelooker.looker import PIECES, Looker
from wirelooker.stacks import stack_of
from wirelooker.wishtexts import read_wish


def _feed(looker, text):
    looker.feed(read_catch(text))
    return f"{moments_of(looker.catch())} moments"


def _watch(looker, text):
    return f"kept {looker.watch(read_wish(text))}"


def _stack(looker, text):
    return f"kept {looker.stack(stack_of(text))}"


def _drop(looker, number):
    looker.drop(number)
    return f"dropped {number}"


def _first(looker, number):
    return _or_none(looker.first(number))


def _when(looker, number):
    return _row_by(" ", [f"{begin}-{end}" for begin, end in looker.when(number)])


def _layer(looker, number, layer):
    items = _reading_with(looker, number, layer)[layer]
    return _row_by(" , ", [f"{kind} {begin}-{end}" for kind, _, begin, end, _ in items])


def _lead(looker, number, layer, item):
    places = places_of(_reading_with(looker, number, layer), layer, item)
    return _row_by(" , ", [f"{name} {moment}" for name, moment in places])


def _owner(looker, number, layer, name, moment):
    return _or_none(owner_of(_reading_with(looker, number, layer), layer, name, moment))


def _back(looker):
    return "back" if looker.back() else "nothing"


def _show(looker):
    return row_text(show_catch(looker.catch()))


def _reading_with(looker, number, layer):
    """What is settled by a stack, refused with NoWatch, and with NoItem where it has no such layer."""
    reading = looker.read(number)
    if layer >= len(reading):
        raise NoItem(layer, -1)
    return reading


def _or_none(number):
    return "none" if number is None else str(number)


def _row_by(sign, parts):
    """A row of parts, the sign between them; without any, the word for it."""
    return sign.join(parts) if parts else "none"


ANSWERS = {
    "feed": _feed,
    "watch": _watch,
    "stack": _stack,
    "drop": _drop,
    "first": _first,
    "when": _when,
    "layer": _layer,
    "lead": _lead,
    "owner": _owner,
    "back": _back,
    "show": _show,
}


class Desk:
    """Keeps a Looker, or none, and is told rows."""

    def __init__(self, *, most=PIECES):
        self.most = most
        self.looker = None

    def say(self, row):
        """The answer to a row; refused with NoRow, with NoText, or as the Looker refuses."""
        word, things = row_of(row)
        if word == "lines":
            self.looker = Looker(things[0], most=self.most)
            return f"{len(things[0])} lines"
        if self.looker is None:
            raise NoRow()
        answer = ANSWERS[word]
        return answer(self.looker, *things)

    def __len__(self):
        if self.looker is None:
            return 0
        return len(self.looker)
