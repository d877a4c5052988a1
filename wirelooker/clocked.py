"""Words by a clock: the items of clocked protocols."""

from wirelooker.basics import number_of
from wirelooker.catches import line_in, moments_of
from wirelooker.lines import falls, highs, rises, turned
from wirelooker.spans import grouped
from wirelooker.wires import Wire


def clocked_items(catch, protocol):
    """The items that a clocked protocol reads from a catch, a tuple, in their order."""
    _, clock, edge, data, gate, bits, first = protocol
    line = line_in(catch, clock)
    edges = rises(line) if edge == "rise" else falls(line)
    wire = Wire(catch, data)
    runs = _open_runs(catch, gate)
    items = []
    for (_, end), taken in zip(runs, grouped(edges, runs)):
        why = "end" if end == wire.moments else "gate"
        for at in range(0, len(taken), bits):
            items.append(_item_of(wire, taken[at:at + bits], bits, first, why))
    return tuple(items)


def _open_runs(catch, gate):
    """The spans within which bits are taken together: each low run of the gate, or the whole catch."""
    if gate == "":
        return ((0, moments_of(catch)),)
    return highs(turned(line_in(catch, gate)))


def _item_of(wire, moments, bits, first, why):
    """The word of the bits taken at these moments; torn, and why, where they are too few."""
    if len(moments) < bits:
        return wire.item_over("torn", why, moments)
    levels = wire.levels(moments)
    return wire.item_over("word", number_of(levels if first == "high" else levels[::-1]), moments)
