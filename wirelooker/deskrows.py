"""The rows that a desk is told: a word, and the things behind it."""

from wirelooker.basics import figures, is_name
from wirelooker.errors import NoRow

# The things behind the words of rows without a TEXT, by what they are.
FORMS = {
    "drop": ("number",),
    "first": ("number",),
    "when": ("number",),
    "layer": ("number", "number"),
    "lead": ("number", "number", "number"),
    "owner": ("number", "number", "name", "number"),
    "back": (),
    "show": (),
}
TEXTS = ("feed", "watch", "stack")
BREAK = " ; "
GREATEST = 1000000000


def row_of(row):
    """The word of a row and the things behind it, (word, things), refused with NoRow where it is none."""
    words = row.split(" ")
    things = None
    if "" not in words and "\n" not in row:
        things = _things_of(words[0], words[1:], row)
    if things is None:
        raise NoRow()
    return (words[0], things)


def _things_of(word, behind, row):
    """The things that the words behind a row's word write, a list, None where it is no row."""
    if word == "lines":
        return [behind] if _are_names(behind) else None
    if word in TEXTS:
        return [row[len(word) + 1:].replace(BREAK, "\n")] if behind else None
    if word not in FORMS or len(behind) != len(FORMS[word]):
        return None
    things = [_thing_of(field, part) for field, part in zip(FORMS[word], behind)]
    return None if None in things else things


def _are_names(words):
    return 1 <= len(words) <= 5 and all([is_name(word) for word in words]) and len(set(words)) == len(words)


def _thing_of(field, word):
    """The number or name that a word writes, None where it writes none."""
    if field == "name":
        return word if is_name(word) else None
    number = figures(word)
    return None if number is None or number > GREATEST else number


def row_text(text):
    """A text with the rows in it behind one another, as a row has it."""
    return text.replace("\n", BREAK)
