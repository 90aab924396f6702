"""What the tests share: cards signed apart from the program, and calls written as lists."""

from learningdoor.desk import answers

KEY = list(range(16))
OTHER_KEY = list(range(100, 116))

GUEST = 1
STAFF = 2
SHUTTING = 3
EMERGENCY = 4

FULL = (1 << 64) - 1


def turned(x, n):
    return (x << n | x >> 64 - n) & FULL


def mixed(numbers, times):
    a, b, c, d = numbers
    for _ in range(times):
        a, c = (a + b) & FULL, (c + d) & FULL
        b, d = turned(b, 13) ^ a, turned(d, 16) ^ c
        a = turned(a, 32)
        a, c = (a + d) & FULL, (c + b) & FULL
        d, b = turned(d, 21) ^ a, turned(b, 17) ^ c
        c = turned(c, 32)
    return a, b, c, d


def tag(message, key):
    """SipHash-2-4, written otherwise than the program does it; test_tag holds both to known tags."""
    k, l = int.from_bytes(bytes(key[:8]), "little"), int.from_bytes(bytes(key[8:]), "little")
    a, b, c, d = (int.from_bytes(text, "big") ^ half for text, half in (
        (b"somepseu", k), (b"dorandom", l), (b"lygenera", k), (b"tedbytes", l)))
    padded = bytes(message) + bytes(7 - len(message) % 8) + bytes([len(message) % 256])
    for at in range(0, len(padded), 8):
        word = int.from_bytes(padded[at:at + 8], "little")
        a, b, c, d = mixed((a, b, c, d ^ word), 2)
        a ^= word
    a, b, c, d = mixed((a, b, c ^ 255, d), 4)
    return list((a ^ b ^ c ^ d).to_bytes(8, "little"))


def message(kind, place, number=0, last=0, serial=0):
    told = [kind, place]
    for value in (number, last, serial):
        told += list(value.to_bytes(2, "little"))
    return told


def card(kind, place, number=0, last=0, serial=0, key=KEY):
    told = message(kind, place, number, last, serial)
    return told + tag(told, key)


def begin(room=5, zone=2, key=KEY):
    return [0, room, zone, len(key)] + list(key)


def day(d):
    return [1, d]


def show(content):
    return [2, len(content)] + list(content)


def would(content):
    return [3, len(content)] + list(content)


def bolt(on):
    return [4, on]


def book(k):
    return [5, k]


def state():
    return [6]


WHOLE_BOOK = [book(k) for k in range(16)]


def line(*calls):
    return [number for call in calls for number in call]


def answered(*calls):
    """What is answered to each call, as a list of its own; the counts ahead of them are taken away."""
    given = answers(line(*calls))
    parts, at = [], 0
    while at < len(given):
        count = given[at]
        part = given[at + 1:at + 1 + count]
        if count < 1 or len(part) != count:
            raise AssertionError("a count doesn't fit: " + repr(given))
        parts.append(part)
        at += 1 + count
    if len(parts) != len(calls):
        raise AssertionError("so many answers to " + str(len(calls)) + " calls: " + repr(given))
    return parts


def replies(*calls):
    """The number answered to each call; every one of them answers with one number alone."""
    parts = answered(*calls)
    if any(len(part) != 1 for part in parts):
        raise AssertionError("a count isn't 1: " + repr(parts))
    return [part[0] for part in parts]


def state_behind(*calls):
    return answered(*calls, state())[-1]


def book_behind(*calls):
    """The entries that stand in the book, the last first."""
    return [part for part in answered(*calls, *WHOLE_BOOK)[-16:] if part != [-2]]
