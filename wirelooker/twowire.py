"""Words by two wires: the items of two-wire protocols."""

from wirelooker.basics import number_of
from wirelooker.catches import line_in
from wirelooker.lines import falls, highs, rises
from wirelooker.spans import grouped, worn
from wirelooker.wires import Wire


def twowire_items(catch, protocol):
    """The items that a two-wire protocol reads from a catch, a tuple, in their order."""
    _, clock, data = protocol
    wire = Wire(catch, data)
    items = []
    taken = []
    started = False
    for moment, kind in _marks(line_in(catch, clock), wire.line):
        if kind == "bit" and started:
            taken.append(moment)
            if len(taken) == 9:
                items.append(_word_of(wire, taken))
                taken = []
        elif kind == "start" or started:
            # Ahead of a start or a stop the clock rises once more, for no bit of a word.
            if len(taken) > 1:
                items.append(wire.item_over("torn", "bits", taken))
            items.append(wire.item_over(kind, "", [moment]))
            taken = []
            started = kind == "start"
    if taken:
        items.append(wire.item_over("torn", "end", taken))
    return tuple(items)


def _marks(clock, data):
    """The bits, starts and stops, (moment, kind), rising by moments, a list."""
    # High at a moment and at the one ahead, so that no bit is taken where a start or a stop is.
    steady = worn(highs(clock), 1)
    marks = [(moment, "bit") for moment in rises(clock)]
    for kind, changes in (("start", falls(data)), ("stop", rises(data))):
        for group in grouped(changes, steady):
            marks.extend([(moment, kind) for moment in group])
    return sorted(marks)


def _word_of(wire, moments):
    """The word of nine bits, mute where the ninth is high."""
    *bits, ninth = wire.levels(moments)
    return wire.item_over("mute" if ninth == 1 else "word", number_of(bits), moments)
