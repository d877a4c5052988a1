"""Talks: packets that ask, by a tag, and packets that answer them."""

from wirelooker.layers import item_of_parts

ANSWERS = 128


def talks_in(items):
    """The talks that are read from a row of packets, a tuple, in the order in which they end."""
    talks = []
    # From the tag of each ask that is open to its number, as they came.
    asked = {}
    for at, item in enumerate(items):
        if item[0] != "packet" or item[1] == ():
            continue
        tag = item[1][0]
        if tag < ANSWERS:
            if tag in asked:
                talks.append(_alone(items, "lost", asked.pop(tag)))
            asked[tag] = at
        elif tag - ANSWERS in asked:
            ask = asked.pop(tag - ANSWERS)
            talks.append(item_of_parts(items, "talk", (_said(items, ask), _said(items, at)), (ask, at)))
        else:
            talks.append(_alone(items, "stray", at))
    talks.extend([_alone(items, "open", ask) for ask in asked.values()])
    return tuple(talks)


def _said(items, at):
    """What a packet says behind its tag."""
    return items[at][1][1:]


def _alone(items, kind, at):
    """The item of one packet alone."""
    return item_of_parts(items, kind, _said(items, at), (at,))
