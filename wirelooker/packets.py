"""Packets on words, each a mark, how many numbers, the numbers, and a check of them; and numbers as bytes."""

from wirelooker.errors import NoNumber, NoText
from wirelooker.layers import item_of_parts

MOST = 255
CHECKS = ("sum", "xor", "rest")
SIGNS = "0123456789abcdef"


def check_of(kind, numbers):
    """The check, of a kind, of a row of numbers below 256."""
    if kind == "sum":
        return sum(numbers) & 255
    check = 0
    for number in numbers:
        check ^= number
        if kind == "rest":
            check = _rest_of(check)
    return check


def _rest_of(number):
    """What is left of a number below 256 behind eight doublings, each of which takes away what is above."""
    for _ in range(8):
        number *= 2
        if number >= 256:
            number = (number - 256) ^ 7
    return number


def packets_in(items, mark, *, most=MOST, check="sum"):
    """The packets that are read from a row of items, a tuple, in their order."""
    packets = []
    at = 0
    while at < len(items):
        if not _is_whole(items[at]) or items[at][1] != mark:
            at += 1
            continue
        kind, what, many = _try_from(items, at, most, check)
        packets.append(item_of_parts(items, kind, what, list(range(at, at + many))))
        at += many
    return tuple(packets)


def _is_whole(item):
    """Whether an item is a word that is a packet's, perhaps."""
    return item[0] == "word" and item[1] < 256


def _try_from(items, at, most, check):
    """What the items from a mark on tell: the kind and the what of a packet, and how many items are its parts."""
    numbers = []
    for item in items[at + 1:at + most + 3]:
        if not _is_whole(item):
            return ("torn", "word", 1)
        numbers.append(item[1])
        if numbers[0] > most:
            return ("torn", "long", 1)
        # Behind how many there are stand so many numbers, then the check of all these.
        if len(numbers) == numbers[0] + 2:
            if numbers[-1] != check_of(check, numbers[:-1]):
                return ("torn", "check", 1)
            return ("packet", tuple(numbers[1:-1]), len(numbers) + 1)
    return ("torn", "end", len(items) - at)


def numbers_of(bodies, mark, *, most=MOST, check="sum"):
    """The numbers of the packets of these bodies, a tuple, refused with NoNumber of the first that is beyond."""
    numbers = []
    for at, body in enumerate(bodies):
        _look_body(at, body, most)
        told = [len(body), *body]
        numbers.extend([mark, *told, check_of(check, told)])
    return tuple(numbers)


def _look_body(at, body, most):
    if len(body) > most:
        raise NoNumber(at, -1)
    for place, number in enumerate(body):
        if not 0 <= number < 256:
            raise NoNumber(at, place)


def packed(numbers):
    """The bytes of a row of numbers below 256."""
    return bytes(list(numbers))


def hex_of(data):
    """The text of bytes, two signs for each, that of the higher half first."""
    return data.hex()


def data_of(text):
    """The bytes of a text of such signs, refused with NoText where others are, or where they are odd in number."""
    for at, sign in enumerate(text):
        if sign not in SIGNS:
            raise NoText(at)
    if len(text) & 1 == 1:
        raise NoText(len(text))
    return bytes.fromhex(text)
