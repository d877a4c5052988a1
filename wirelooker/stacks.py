"""Stacks: a protocol, and the layers that are read from its items, one from the other."""

from wirelooker.basics import figures, is_whole, word_of
from wirelooker.calls import calls_in
from wirelooker.errors import NoProtocol, NoStack, NoText
from wirelooker.packets import CHECKS, packets_in
from wirelooker.protocols import look_protocol, protocol_of, show_protocol
from wirelooker.reading import read_words
from wirelooker.talks import talks_in

CALLS = ("calls",)
TALKS = ("talks",)


def look_stack(names, stack):
    """True of a stack for lines of these names; any other thing is refused with NoStack."""
    if not isinstance(stack, tuple) or stack == ():
        raise NoStack(0, "form")
    try:
        look_protocol(names, stack[0])
    except NoProtocol as why:
        raise NoStack(0, why.word)
    for layer in range(1, len(stack)):
        word = _fault_behind(stack[:layer], stack[layer])
        if word is not None:
            raise NoStack(layer, word)
    return True


def _fault_behind(stack, thing):
    """The first word for which a thing is no layer behind those of a stack, None where it is one."""
    if len(stack) == 1:
        return _fault_on_words(stack[0], thing)
    if len(stack) == 2 and stack[1][0] == "packets" and thing == TALKS:
        return None
    return "form"


def _fault_on_words(protocol, thing):
    """The first word for which a thing is no layer behind a protocol, None where it is one."""
    if thing == CALLS and protocol[0] == "twowire":
        return None
    if word_of(thing) != "packets" or len(thing) != 4:
        return "form"
    _, mark, most, check = thing
    if not is_whole(mark) or not is_whole(most) or not isinstance(check, str):
        return "form"
    if not 0 <= mark < 256:
        return "mark"
    if not 0 <= most < 256:
        return "most"
    return None if check in CHECKS else "check"


def read_stack(catch, stack):
    """The reading of a catch by a stack: each layer's items, a tuple of tuples."""
    layers = []
    for layer in stack:
        layers.append(_items_of(catch, layers, layer))
    return tuple(layers)


def settled(catch, stack):
    """The reading without what more moments may still change, each layer read from what is settled beneath."""
    layers = []
    for layer in stack:
        items = _items_of(catch, layers, layer)
        layers.append(tuple([item for item in items if _is_settled(item)]))
    return tuple(layers)


def _items_of(catch, layers, layer):
    """The items of a layer, read from the catch, or from the last of the layers beneath."""
    if not layers:
        return read_words(catch, layer)
    if layer == CALLS:
        return calls_in(layers[-1])
    if layer == TALKS:
        return talks_in(layers[-1])
    _, mark, most, check = layer
    return packets_in(layers[-1], mark, most=most, check=check)


def _is_settled(item):
    return item[0] != "open" and item[:2] != ("torn", "end")


def show_stack(stack):
    """The text of a stack."""
    above = [" ".join([str(part) for part in layer]) for layer in stack[1:]]
    return "\n".join([show_protocol(stack[0]), *above])


def stack_of(text):
    """The stack of a text, refused with NoText of the first row that can't stand there."""
    stack = ()
    for at, row in enumerate(text.split("\n")):
        layer = _layer_of(stack, row.split(" "))
        if layer is None:
            raise NoText(at)
        stack = (*stack, layer)
    return stack


def _layer_of(stack, words):
    """The layer that words write behind those of a stack, perhaps none; None where it can't stand there."""
    if stack == ():
        return protocol_of(words)
    layer = tuple(words)
    if len(layer) == 4:
        # A word that writes no number leaves None in its place, which no layer has.
        layer = (words[0], figures(words[1]), figures(words[2]), words[3])
    return layer if _fault_behind(stack, layer) is None else None
