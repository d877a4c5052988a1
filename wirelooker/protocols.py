"""Protocols: how words stand on lines."""

from wirelooker.basics import figures, is_name, is_whole, word_of
from wirelooker.errors import NoProtocol, NoText

# The things behind each protocol's word, by what they are.
FORMS = {
    "clocked": ("clock", "edge", "data", "gate", "bits", "first"),
    "framed": ("data", "long", "bits", "check", "stops"),
    "twowire": ("clock", "data"),
}
LINES = ("clock", "data", "gate")
WORDS = {"edge": ("rise", "fall"), "first": ("high", "low"), "check": ("none", "even", "odd")}
BOUNDS = {"long": (2, 1000000), "bits": (1, 16), "stops": (1, 2)}


def look_protocol(names, protocol):
    """True of a protocol for lines of these names; any other thing is refused with NoProtocol."""
    word = _fault_of(names, protocol)
    if word is not None:
        raise NoProtocol(word)
    return True


def _fault_of(names, protocol):
    """The first word for which a thing is no protocol for these names, None where it is one."""
    if not _has_form(protocol):
        return "form"
    lines = lines_of(protocol)
    if not all([line in names for line in lines]):
        return "line"
    if len(set(lines)) < len(lines):
        return "same"
    for field, thing in zip(FORMS[protocol[0]], protocol[1:]):
        if not _is_told(field, thing):
            return field
    return None


def _has_form(thing):
    fields = FORMS.get(word_of(thing))
    if fields is None or len(thing) != len(fields) + 1:
        return False
    return all([_has_sort(field, part) for field, part in zip(fields, thing[1:])])


def _has_sort(field, thing):
    return is_whole(thing) if field in BOUNDS else isinstance(thing, str)


def _is_told(field, thing):
    """Whether a thing that is no line is one of those that a protocol may have there."""
    if field in BOUNDS:
        least, most = BOUNDS[field]
        return least <= thing <= most
    return field in LINES or thing in WORDS[field]


def lines_of(protocol):
    """The names of a protocol's lines, in the order in which they stand in it, a list."""
    parts = [part for field, part in zip(FORMS[protocol[0]], protocol[1:]) if field in LINES]
    # Only a gate may be without a name; of a clock, "" is a line that isn't there.
    if protocol[0] == "clocked" and parts[-1] == "":
        return parts[:-1]
    return parts


def show_protocol(protocol):
    """The text of a protocol."""
    return " ".join(["-" if part == "" else str(part) for part in protocol])


def read_protocol(text):
    """The protocol of a text, refused with NoText(0) where it is the text of none."""
    protocol = protocol_of(text.split(" "))
    if protocol is None:
        raise NoText(0)
    return protocol


def many_words(word):
    """How many words the text of a protocol has that begins with this one; 0 where none begins so."""
    return len(FORMS[word]) + 1 if word in FORMS else 0


def protocol_of(words):
    """The protocol that these words, one at least, write, let by for some names; None where they write none."""
    if len(words) != many_words(words[0]):
        return None
    parts = [_part_of(field, word) for field, word in zip(FORMS[words[0]], words[1:])]
    if None in parts:
        return None
    protocol = (words[0], *parts)
    if _fault_of(lines_of(protocol), protocol) is not None:
        return None
    return protocol


def _part_of(field, word):
    """The thing that a word writes as this part of a protocol, None where it can write none."""
    if field in BOUNDS:
        return figures(word)
    if field == "gate" and word == "-":
        return ""
    if field in LINES and not is_name(word):
        return None
    return word
