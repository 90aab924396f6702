"""Whole numbers told by bytes, the least byte first."""


def number_from(octets):
    number = 0
    for octet in reversed(octets):
        number = number * 256 + octet
    return number


def octets_from(number, length):
    octets = []
    for at in range(length):
        octets.append((number >> (8 * at)) & 255)
    return octets
