"""The texts of wishes: their words in order, wishes in them by their own texts."""

from wirelooker.basics import figures, is_name
from wirelooker.errors import NoText
from wirelooker.protocols import many_words, protocol_of, show_protocol
from wirelooker.wishes import fields_of, parts_of, things_in

MOST_WORDS = 200


def show_wish(wish):
    """The text of a wish."""
    return " ".join([_own_text(part) for part in parts_of(wish)])


def _own_text(part):
    """The text of a part of a wish, without those of the wishes in it, which all stand behind it."""
    words = [part[0]]
    for field in _in_texts(fields_of(part[0])):
        if field != "wish":
            words.extend([_word_of(field, thing) for thing in things_in(part, (field,))])
    return " ".join(words)


def _word_of(field, thing):
    return show_protocol(thing) if field == "protocol" else str(thing)


def _in_texts(fields):
    """The fields of a wish in the order in which they stand in texts, a protocol behind the numbers, a list."""
    behind = [field for field in fields if field == "protocol"]
    return [field for field in fields if field != "protocol"] + behind


def read_wish(text):
    """The wish of a text, refused with NoText of the first word by which it can't be one any more."""
    words = text.split(" ")
    found = []
    due = ["wish"]
    at = 0
    while due:
        # The 201st word is refused whatever it is, and where words lack, so is the one that isn't there.
        if at in (len(words), MOST_WORDS):
            raise NoText(at)
        field = due.pop()
        if field == "protocol":
            thing = _protocol_at(words, at)
            at += len(thing)
        else:
            thing = _thing_of(field, words[at])
            if thing is None:
                raise NoText(at)
            at += 1
        if field == "wish":
            due.extend(_in_texts(fields_of(thing))[::-1])
        found.append((field, thing))
    if at < len(words):
        raise NoText(at)
    return _wish_of(found)


def _thing_of(field, word):
    """The thing that a word writes as this field of a wish, of a wish its word; None where it can write none."""
    if field == "wish":
        return None if fields_of(word) is None else word
    if field == "line":
        return word if is_name(word) else None
    return figures(word)


def _protocol_at(words, at):
    """The protocol that is written from this word on, refused with NoText where none is."""
    behind = at + many_words(words[at])
    there = min(len(words), MOST_WORDS)
    if behind > there:
        raise NoText(there)
    # A first word that is no protocol's leaves no words to look at, and is refused itself.
    protocol = None if behind == at else protocol_of(words[at:behind])
    if protocol is None:
        raise NoText(at)
    return protocol


def _wish_of(found):
    """The wish of the things that its text tells one by one, (field, thing) each, a wish by its word."""
    # From the last one on, so that all that stands behind a wish's word is put together where the word comes.
    behind = []
    for field, thing in found[::-1]:
        if field == "wish":
            left = len(behind) - len(fields_of(thing))
            behind[left:] = [_with_word(thing, behind[left:][::-1])]
        else:
            behind.append(thing)
    return behind[0]


def _with_word(word, things):
    """The wish of a word and the things behind it, in the order in which they stand in texts."""
    if "protocol" in fields_of(word):
        return (word, things[-1], *things[:-1])
    return (word, *things)
