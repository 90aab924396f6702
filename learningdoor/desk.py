"""The desk: reads a list of calls on one door, and answers them one behind another."""

from learningdoor.door import DONE, WRONG_VALUE, Door, may_begin

BEGIN = 0
DAY = 1
OPEN = 2
WOULD = 3
BOLT = 4
BOOK = 5

# Of each call, by its number (state is the last): how many whole numbers it has, then how many rows.
SHAPES = ((2, 1), (1, 0), (0, 1), (0, 1), (1, 0), (1, 0), (0, 0))

NO_DOOR = -61


class Reader:
    """Goes through a list of calls from its beginning, and leaves it as it is."""

    def __init__(self, calls):
        self.calls = calls
        self.at = 0

    def is_done(self):
        return self.at >= len(self.calls)

    def take_number(self):
        number = self.calls[self.at]
        self.at = self.at + 1
        return number

    def take_row(self):
        length = self.take_number()
        row = self.calls[self.at:self.at + length]
        self.at = self.at + length
        return row

    def take_arguments(self, call):
        shape = SHAPES[call]
        arguments = []
        for turn in range(shape[0]):
            arguments.append(self.take_number())
        for turn in range(shape[1]):
            arguments.append(self.take_row())
        return arguments


class Desk:
    """Answers calls on one door, which is not there at first."""

    def __init__(self):
        self.door = None

    def answer(self, call, arguments):
        if call == BEGIN:
            return self.begin(arguments[0], arguments[1], arguments[2])
        if self.door is None:
            return [NO_DOOR]
        if call == DAY:
            return [self.door.move_day(arguments[0])]
        if call == OPEN:
            return [self.door.show(arguments[0])]
        if call == WOULD:
            return [self.door.would_answer(arguments[0])]
        if call == BOLT:
            return [self.door.set_bolt(arguments[0])]
        if call == BOOK:
            return self.door.entry(arguments[0])
        return self.door.state()

    def begin(self, room, zone, key):
        if not may_begin(room, zone, key):
            return [WRONG_VALUE]
        self.door = Door(room, zone, key)
        return [DONE]


def answers(calls):
    reader = Reader(calls)
    desk = Desk()
    given = []
    while not reader.is_done():
        call = reader.take_number()
        answer = desk.answer(call, reader.take_arguments(call))
        given.append(len(answer))
        given.extend(answer)
    return given
