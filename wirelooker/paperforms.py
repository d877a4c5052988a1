"""The forms of papers: a paper is taken apart into its head, the ends of its stretches and the papers in it.

The head is its word and the number or the truth behind it; a paper without stretches has None for their ends.
"""

from wirelooker.basics import is_whole, word_of

# The things behind each paper's word, by what they are.
FORMS = {
    "line": (),
    "split": ("stretches",),
    "not": ("paper",),
    "two": ("paper", "paper"),
    "one": ("number", "paper"),
    "ago": ("paper",),
    "early": (),
    "now": ("paper",),
    "at": ("number", "paper"),
    "all": ("paper",),
    "since": ("number", "paper", "paper"),
    "never": ("paper",),
    "broken": ("number", "paper", "paper"),
    "count": ("truth", "stretches"),
}


def taken_apart(paper):
    """The head, the ends and the papers in a paper, None of a thing that has no paper's form."""
    fields = FORMS.get(word_of(paper))
    if fields is None or len(paper) != len(fields) + 1:
        return None
    if not all([_has_sort(field, thing) for field, thing in zip(fields, paper[1:])]):
        return None
    if "stretches" in fields:
        return (paper[:-1], [end for end, _ in paper[-1]], [inner for _, inner in paper[-1]])
    many = 1 + len([field for field in fields if field != "paper"])
    return (paper[:many], None, list(paper[many:]))


def put_together(head, ends, papers):
    """The paper that is taken apart into these."""
    if ends is None:
        return (*head, *papers)
    return (*head, tuple(zip(ends, papers)))


def _has_sort(field, thing):
    if field == "number":
        return _is_number(thing)
    if field == "truth":
        return isinstance(thing, bool)
    if field == "stretches":
        return isinstance(thing, tuple) and all([_is_stretch(part) for part in thing])
    # A paper in it is looked at when it is taken apart itself.
    return True


def _is_number(thing):
    return is_whole(thing) and thing >= 0


def _is_stretch(thing):
    return isinstance(thing, tuple) and len(thing) == 2 and _is_number(thing[0])
