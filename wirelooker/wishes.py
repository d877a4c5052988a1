"""Wishes: small sentences about the lines till a moment; their parts, and whether a thing is one."""

from wirelooker.basics import is_whole, word_of
from wirelooker.errors import NoProtocol, NoWish
from wirelooker.protocols import look_protocol

# The things behind each wish's word, by what they are; a number from 1 on is a count.
FORMS = {
    "yes": (),
    "high": ("line",),
    "low": ("line",),
    "rise": ("line",),
    "fall": ("line",),
    "pulse": ("line", "level", "least", "most"),
    "edges": ("line", "count", "least", "most"),
    "read": ("protocol", "least", "most"),
    "not": ("wish",),
    "both": ("wish", "wish"),
    "either": ("wish", "wish"),
    "ago": ("number", "wish"),
    "within": ("number", "wish"),
    "held": ("count", "wish"),
    "since": ("wish", "wish"),
    "nth": ("count", "wish"),
}
TUPLES = ("protocol", "wish")
NUMBERS = ("number", "least", "most")
GREATEST = 1000000000


def fields_of(word):
    """What the things behind a wish's word are, a tuple; None where no wish begins so."""
    return FORMS.get(word)


def things_in(wish, fields):
    """The things in a wish that are one of these, a list."""
    return [thing for field, thing in zip(FORMS[wish[0]], wish[1:]) if field in fields]


def parts_of(wish):
    """The parts of a wish, a list: itself and the wishes in it, a wish ahead of its parts, from left to right."""
    parts = []
    # A list of what is due, for a text may write wishes that are deeper than calls should be.
    due = [wish]
    while due:
        part = due.pop()
        parts.append(part)
        due.extend(things_in(part, ("wish",))[::-1])
    return parts


def inner_of(parts):
    """For each part, of those that parts_of told, the numbers of the wishes right in it, a list of lists."""
    inner = [[] for _ in parts]
    sizes = [1 for _ in parts]
    for at in range(len(parts) - 1, -1, -1):
        for _ in things_in(parts[at], ("wish",)):
            number = at + sizes[at]
            inner[at].append(number)
            sizes[at] += sizes[number]
    return inner


def deep(wish):
    """How deep a wish is: 0 without others in it, else one deeper than the deepest in it."""
    inner = inner_of(parts_of(wish))
    depths = [0 for _ in inner]
    for at in range(len(inner) - 1, -1, -1):
        depths[at] = max([depths[number] + 1 for number in inner[at]], default=0)
    return depths[0]


def look_wish(names, wish):
    """True of a wish for lines of these names; any other thing is refused with NoWish."""
    due = [wish]
    at = 0
    while due:
        part = due.pop()
        word = _fault_of(names, part)
        if word is not None:
            raise NoWish(word, at)
        due.extend(things_in(part, ("wish",))[::-1])
        at += 1
    return True


def _fault_of(names, part):
    """The first word for which a part is refused, the parts in it aside, None where it is let by."""
    if not _has_form(part):
        return "form"
    if not all([line in names for line in things_in(part, ("line",))]):
        return "line"
    if not all([_is_let_by(names, protocol) for protocol in things_in(part, ("protocol",))]):
        return "protocol"
    if not all([0 <= level <= 1 for level in things_in(part, ("level",))]):
        return "level"
    counts = things_in(part, ("count",))
    numbers = things_in(part, NUMBERS)
    if not all([1 <= count <= GREATEST for count in counts]) or not all([0 <= n <= GREATEST for n in numbers]):
        return "number"
    if things_in(part, ("least",)) > things_in(part, ("most",)):
        return "order"
    return None


def _has_form(thing):
    fields = FORMS.get(word_of(thing))
    if fields is None or len(thing) != len(fields) + 1:
        return False
    return all([_has_sort(field, part) for field, part in zip(fields, thing[1:])])


def _has_sort(field, thing):
    if field in TUPLES:
        return isinstance(thing, tuple)
    return isinstance(thing, str) if field == "line" else is_whole(thing)


def _is_let_by(names, protocol):
    try:
        return look_protocol(names, protocol)
    except NoProtocol:
        return False
