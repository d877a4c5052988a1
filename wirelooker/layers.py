"""Layers: items that are made of the items of the row beneath."""


def item_of_parts(items, kind, what, parts):
    """The item whose parts have these numbers, one at least, in the row of items beneath."""
    return (kind, what, items[parts[0]][2], items[parts[-1]][3], tuple(parts))
