"""A card: its kind, place, number, last day and serial number, and their tag."""

from learningdoor.octets import number_from
from learningdoor.tag import tag_of

GUEST = 1
STAFF = 2
SHUTTING = 3
EMERGENCY = 4

CARD_LENGTH = 16
LAST_ROOM = 63
EVERY_ZONE = 255


class Card:
    """What a card of the right length tells."""

    def __init__(self, content):
        self.kind = content[0]
        self.place = content[1]
        self.number = number_from(content[2:4])
        self.last = number_from(content[4:6])
        self.serial = number_from(content[6:8])


def is_for_room(kind):
    return kind == GUEST or kind == SHUTTING


def has_place(kind, place):
    if is_for_room(kind):
        return place <= LAST_ROOM
    if kind == STAFF:
        return place >= 1
    if kind == EMERGENCY:
        return place == EVERY_ZONE
    return False


def is_card(content, key):
    if len(content) != CARD_LENGTH:
        return False
    if not has_place(content[0], content[1]):
        return False
    return content[8:] == tag_of(content[:8], key)
