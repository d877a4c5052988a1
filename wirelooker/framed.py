"""Words in frames: the items of framed protocols."""

from wirelooker.basics import number_of
from wirelooker.lines import falls
from wirelooker.wires import Wire


def framed_items(catch, protocol):
    """The items that a framed protocol reads from a catch, a tuple, in their order."""
    wire = Wire(catch, protocol[1])
    items = []
    free = 0
    for start in falls(wire.line):
        if start >= free:
            item = _frame_at(wire, protocol, start)
            items.append(item)
            # An item ends just behind the last sample that counts for it, or with the catch.
            free = item[3]
    return tuple(items)


def _frame_at(wire, protocol, start):
    """The item of the frame that begins with this start."""
    _, _, _, bits, check, stops = protocol
    samples = _samples(protocol, start)
    there = [moment for moment in samples if moment < wire.moments]
    levels = wire.levels(there)
    behind = samples[-1] + 1
    if levels[:1] == [1]:
        return wire.item("torn", "start", start, samples[0] + 1, there[:1])
    if len(there) < len(samples):
        return wire.item("torn", "end", start, wire.moments, there)
    if 0 in levels[-stops:]:
        return wire.item("torn", "stop", start, behind, there)
    if not _check_holds(check, levels[1:-stops]):
        return wire.item("torn", "check", start, behind, there)
    lowest_first = levels[1:bits + 1]
    return wire.item("word", number_of(lowest_first[::-1]), start, behind, there)


def _samples(protocol, start):
    """The moments at which the levels of a frame are taken, from the start's to the last stop's, a list."""
    _, _, long, bits, check, stops = protocol
    many = 1 + bits + (0 if check == "none" else 1) + stops
    return [start + long // 2 + at * long for at in range(many)]


def _check_holds(check, levels):
    """Whether the high ones of the bits and the check are as many as the check wants, even or odd."""
    if check == "none":
        return True
    return sum(levels) % 2 == (0 if check == "even" else 1)
