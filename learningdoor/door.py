"""A door: what it has learned, and what it does when it is shown a card."""

from learningdoor.card import EMERGENCY, GUEST, LAST_ROOM, STAFF, Card, is_card, is_for_room

KEY_LENGTH = 16
LAST_ZONE = 7
LAST_DAY = 65535
BOOK_LENGTH = 16

DONE = 0
NO_ENTRY = -2
ELSEWHERE = -13
BOLTED = -15
OLDER = -17
WRONG_VALUE = -22
OVER = -34
NOT_A_CARD = -71


def may_begin(room, zone, key):
    return len(key) == KEY_LENGTH and room <= LAST_ROOM and zone <= LAST_ZONE


class Door:
    """A door that has learned nothing yet; its key, room and zone are right."""

    def __init__(self, room, zone, key):
        self.room = room
        self.zone = zone
        self.key = key
        self.day = 0
        self.learned_number = 0
        self.learned_round = 0
        self.bolted = False
        self.book = []

    def move_day(self, day):
        if day < self.day or day > LAST_DAY:
            return WRONG_VALUE
        self.day = day
        return DONE

    def set_bolt(self, on):
        if on > 1:
            return WRONG_VALUE
        self.bolted = on == 1
        return DONE

    def would_answer(self, content):
        if not is_card(content, self.key):
            return NOT_A_CARD
        return self.judge(Card(content))

    def show(self, content):
        answer = self.would_answer(content)
        if answer > 0:
            self.learn(Card(content))
        return answer

    def judge(self, card):
        if not self.is_meant(card):
            return ELSEWHERE
        if card.last < self.day:
            return OVER
        if card.number < self.newest(card):
            return OLDER
        if self.bolted and (card.kind == GUEST or card.kind == STAFF):
            return BOLTED
        # The numbers answered for the four kinds, 1 to 4, are those of the kinds themselves.
        return card.kind

    def is_meant(self, card):
        if is_for_room(card.kind):
            return card.place == self.room
        if card.kind == STAFF:
            return (card.place >> self.zone) & 1 == 1
        return True

    def newest(self, card):
        if is_for_room(card.kind):
            return self.learned_number
        return self.learned_round

    def learn(self, card):
        if is_for_room(card.kind):
            self.learned_number = card.number
        else:
            self.learned_round = card.number
        if card.kind == EMERGENCY:
            self.bolted = False
        self.write_down(card)

    def write_down(self, card):
        self.book.append((card.kind, card.number, card.serial, self.day))
        if len(self.book) > BOOK_LENGTH:
            self.book.pop(0)

    def entry(self, k):
        if k >= len(self.book):
            return [NO_ENTRY]
        # The book is written oldest first, and read last first.
        return list(self.book[len(self.book) - 1 - k])

    def state(self):
        bolted = 1 if self.bolted else 0
        return [bolted, self.room, self.zone, self.day, self.learned_number, self.learned_round, len(self.book)]
