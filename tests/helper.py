"""What the tests share: cards signed apart from the program, and calls written as lists."""

from learningdoor.desk import answers

KEY = list(range(16))
OTHER_KEY = list(range(100, 116))

GUEST = 1
STAFF = 2
SHUTTING = 3
EMERGENCY = 4

FULL = (1 << 64) - 1


def turned(x, n):
    return (x << n | x >> 64 - n) & FULL


def mixed(numbers, times):
    a, b, c, d = numbers
    for _ in range(times):
        a, c = (a + b) & FULL, (c + d) & FULL
        b, d = turned(b, 13) ^ a, turned(d, 16) ^ c
        a = turned(a, 32)
        a, c = (a + d) & FULL, (c + b) & FULL
        d, b = turned(d, 21) ^ a, turned(b, 17) ^ c
        c = turned(c, 32)
    return a, b, c, d


def tag(message, key):
    """SipHash-2-4, written otherwise than the program does it; test_tag holds both to known tags."""
    k, l = int.from_bytes(bytes(key[:8]), "little"), int.from_bytes(bytes(key[8:]), "little")
    a, b, c, d = (int.from_bytes(text, "big") ^ half for text, half in (
        (b"somepseu", k), (b"dorandom", l), (b"lygenera", k), (b"tedbytes", l)))
    padded = bytes(message) + bytes(7 - len(message) % 8) + bytes([len(message) % 256])
    for at in range(0, len(padded), 8):
        word = int.from_bytes(padded[at:at + 8], "little")
        a, b, c, d = mixed((a, b, c, d ^ word), 2)
        a ^= word
    a, b, c, d = mixed((a, b, c ^ 255, d), 4)
    return list((a ^ b ^ c ^ d).to_bytes(8, "little"))


def message(kind, place, number=0, last=0, serial=0):
    told = [kind, place]
    for value in (number, last, serial):
        told += list(value.to_bytes(2, "little"))
    return told


def card(kind, place, number=0, last=0, serial=0, key=KEY):
    told = message(kind, place, number, last, serial)
    return told + tag(told, key)


def begin(room=5, zone=2, key=KEY):
    return [0, room, zone, len(key)] + list(key)


def day(d):
    return [1, d]


def show(content):
    return [2, len(content)] + list(content)


def would(content):
    return [3, len(content)] + list(content)


def line(*calls):
    return [number for call in calls for number in call]


def replies(*calls):
    """The number answered to each call; every one of them answers with one number alone."""
    given = answers(line(*calls))
    if given[0::2] != [1] * len(calls):
        raise AssertionError("a count isn't 1: " + repr(given))
    return given[1::2]
