"""Leads: from the items of a reading to their places on the lines, and back; and the lines made again."""

from wirelooker.errors import NoItem
from wirelooker.making import HALF, made


def places_of(reading, layer, number):
    """The places of an item's parts, rising by moments, a tuple; refused with NoItem where it isn't there."""
    if not 0 <= layer < len(reading) or not 0 <= number < len(reading[layer]):
        raise NoItem(layer, number)
    numbers = [number]
    # The parts of an item rise, so what is told layer by layer stays in order down to the places.
    for items in reading[layer:0:-1]:
        numbers = [part for at in numbers for part in items[at][4]]
    return tuple([place for at in numbers for place in reading[0][at][4]])


def owner_of(reading, layer, name, moment):
    """The number of the layer's item that has this place among its places, None where none has."""
    place = (name, moment)
    owners = [at for at in covering(reading, 0, moment) if place in reading[0][at][4]]
    for items in reading[1:layer + 1]:
        owners = [at for at, item in enumerate(items) for part in owners if part in item[4]]
    return owners[0] if owners else None


def covering(reading, layer, moment):
    """The numbers of the layer's items that lie on a moment, rising, a tuple."""
    return tuple([at for at, item in enumerate(reading[layer]) if item[2] <= moment < item[3]])


def made_again(reading, stack, *, half=HALF):
    """The catch made of the words of a reading's first layer, read by the stack as just these words."""
    groups = _starts_in(reading[0]) if stack[0][0] == "twowire" else [_numbers_in(reading[0])]
    return made(stack[0], groups, half=half)


def _numbers_in(items):
    """The numbers of the words among these items, a list."""
    return [item[1] for item in items if item[0] == "word"]


def _starts_in(items):
    """For each start its words and mutes, as a group is made of them, a list."""
    groups = []
    for item in items:
        if item[0] == "start":
            groups.append([])
        elif item[0] in ("word", "mute"):
            groups[-1].append((item[1], item[0] == "word"))
    return groups
