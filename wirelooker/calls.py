"""Calls: what two wires say from a start to the stop, or to the next start."""

from wirelooker.layers import item_of_parts


def calls_in(items):
    """The calls that are read from a row of items of two wires, a tuple, in their order."""
    calls = []
    parts = []
    for at, item in enumerate(items):
        if item[0] == "start" and parts:
            calls.append(_call_of(items, parts))
            parts = []
        # What stands ahead of the first start, or behind a stop, is of no call.
        if item[0] == "start" or parts:
            parts.append(at)
        if item[0] == "stop" and parts:
            calls.append(_call_of(items, parts))
            parts = []
    if parts:
        calls.append(item_of_parts(items, "torn", "end", parts))
    return tuple(calls)


def _call_of(items, parts):
    """The call of these items, the last of which is a stop, or the one ahead of another start."""
    kinds = [items[part][0] for part in parts]
    if "torn" in kinds:
        return item_of_parts(items, "torn", "bits", parts)
    said = [items[part] for part in parts if items[part][0] in ("word", "mute")]
    if not said:
        return item_of_parts(items, "empty", "", parts)
    first, *numbers = [item[1] for item in said]
    way = "read" if first & 1 == 1 else "write"
    what = (first >> 1, way, tuple(numbers), said[0][0] == "word")
    return item_of_parts(items, "call", what, parts)
