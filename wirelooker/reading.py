"""Words on lines: the items that a protocol reads from a catch."""

from wirelooker.clocked import clocked_items
from wirelooker.framed import framed_items
from wirelooker.twowire import twowire_items


def read_words(catch, protocol):
    """The items that a protocol reads from a catch, a tuple, in their order."""
    if protocol[0] == "clocked":
        return clocked_items(catch, protocol)
    if protocol[0] == "framed":
        return framed_items(catch, protocol)
    return twowire_items(catch, protocol)


def item_holds(catch, protocol, item):
    """Whether an item is one of those that a protocol reads from a catch."""
    return item in read_words(catch, protocol)
