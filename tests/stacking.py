"""Stacks by chance, catches that have something of each of their layers, and their readings in slow ways."""

from tests.helper import some_catch
from tests.slow import slow_words
from tests.test_calls import slow_calls
from tests.test_packets import slow_check, slow_packets
from tests.test_talks import slow_talks
from wirelooker.catches import cut, put_behind
from wirelooker.making import made

CHECKS = ("sum", "xor", "rest")


def some_stack(chance):
    """A stack by chance, of lines c, d and g."""
    form = chance.choice(("clocked", "framed", "twowire", "twowire"))
    bits = chance.choice((8, 8, 9))
    protocol = {
        "clocked": ("clocked", "c", chance.choice(("rise", "fall")), "d", chance.choice(("", "g")), bits,
                    chance.choice(("high", "low"))),
        "framed": ("framed", "d", chance.choice((2, 3)), bits, chance.choice(("none", "even", "odd")), 1),
        "twowire": ("twowire", "c", "d"),
    }[form]
    packets = ("packets", chance.choice((0, 7, 255)), chance.choice((2, 3, 255)), chance.choice(CHECKS))
    above = [(), (packets,), (packets, ("talks",)), (packets, ("talks",))]
    if form == "twowire":
        above.append((("calls",),))
    return (protocol, *chance.choice(above))


def some_numbers(chance, stack, many):
    """Numbers by chance, packets among them where the stack has packets."""
    _, mark, most, check = stack[1] if len(stack) > 1 and len(stack[1]) == 4 else ("packets", 7, 3, "sum")
    numbers = []
    for _ in range(many):
        body = [chance.choice((1, 2, 129, 130)), *[chance.randrange(256) for _ in range(chance.randrange(2))]]
        body = body[:chance.choice((0, 2, 2, 2))]
        told = [len(body), *body]
        numbers += chance.choice([
            [mark, *told, slow_check(check, told)], [mark, *told, slow_check(check, told)],
            [mark, *told], [mark, min(most + 1, 255)], [chance.randrange(256)], [],
        ])
    return numbers


def some_stacked_catch(chance, stack, pieces=3, many=3):
    """A catch by chance, of what was made of such numbers, and of noise."""
    whole = None
    for _ in range(pieces):
        groups = [some_numbers(chance, stack, chance.randint(0, many)) for _ in range(chance.choice((1, 2)))]
        if stack[0][0] == "twowire":
            groups = [[(number, chance.random() < 0.9) for number in group] for group in groups]
        piece = made(stack[0], groups, half=chance.choice((1, 2)))
        moments = sum(long for _, long in piece[0][1])
        if chance.random() < 0.3:
            piece = cut(piece, 0, chance.randint(0, moments))
        whole = piece if whole is None else put_behind(whole, piece)
        if chance.random() < 0.3:
            whole = put_behind(whole, some_catch(chance, [name for name, _ in piece], chance.randint(0, 12), 3))
    return whole


def slow_reading(catch, stack, settle=False):
    """The reading of a catch by a stack, or what of it is settled."""
    layers = [slow_words(catch, stack[0])]
    for layer in stack[1:]:
        layers[-1] = settled_items(layers[-1]) if settle else tuple(layers[-1])
        if layer == ("calls",):
            layers.append(slow_calls(layers[-1]))
        elif layer == ("talks",):
            layers.append(slow_talks(layers[-1]))
        else:
            layers.append(slow_packets(layers[-1], *layer[1:]))
    layers[-1] = settled_items(layers[-1]) if settle else tuple(layers[-1])
    return tuple(layers)


def settled_items(items):
    """The items that are settled."""
    return tuple(item for item in items if not (item[0] == "torn" and item[1] == "end") and item[0] != "open")
