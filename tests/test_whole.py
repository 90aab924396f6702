"""What holds of the whole program, a to d, over long lists with calls of all seven kinds."""

import unittest

from tests.helper import (EMERGENCY, GUEST, KEY, OTHER_KEY, SHUTTING, STAFF, WHOLE_BOOK, answered, begin, bolt, book,
                          card, day, line, show, state, would)

ROOM_KINDS = (GUEST, SHUTTING)
SEEDS = range(12)
STEPS = 220


class Chooser:
    """Chooses by a rule of its own, so that every run chooses the same."""

    def __init__(self, seed):
        self.at = seed

    def below(self, bound):
        self.at = (self.at * 6364136223846793005 + 1442695040888963407) % 2 ** 64
        return (self.at >> 33) % bound

    def one_of(self, things):
        return things[self.below(len(things))]


class Call:
    """A call as a list of numbers, and what it says."""

    def __init__(self, name, numbers, **told):
        self.name = name
        self.numbers = numbers
        self.told = told


def some_begin(chooser):
    room, zone = chooser.one_of((5, 5, 5, 6, 63, 64)), chooser.one_of((2, 2, 2, 3, 7, 8))
    key = chooser.one_of((KEY, KEY, KEY, OTHER_KEY, KEY[:15]))
    return Call("begin", begin(room, zone, key), room=room, zone=zone, key=key)


def some_card(chooser, step):
    """Numbers and days rise with the steps, so that older and newer cards come by turns."""
    kind = chooser.one_of((GUEST, GUEST, SHUTTING, STAFF, STAFF, EMERGENCY))
    places = {GUEST: (5, 5, 5, 6, 64), SHUTTING: (5, 5, 6), STAFF: (4, 4, 6, 255, 8, 0), EMERGENCY: (255, 255, 4)}
    told = {
        "kind": kind,
        "place": chooser.one_of(places[kind]),
        "number": step // 8 + chooser.below(4),
        "last": step // 16 + chooser.below(5),
        "serial": chooser.below(65536),
        "key": chooser.one_of((KEY, KEY, KEY, KEY, KEY, OTHER_KEY)),
    }
    content = card(kind, told["place"], told["number"], told["last"], told["serial"], told["key"])
    if chooser.below(20) == 0:
        content = content[:chooser.below(16)]
    return dict(told, content=content)


def some_calls(seed):
    chooser = Chooser(seed)
    cards = [some_card(chooser, 0)]
    calls = [Call("state", state()), Call("open", show(cards[0]["content"]), **cards[0]), Call("bolt", bolt(1), on=1),
             Call("day", day(1), d=1), Call("book", book(0), k=0), Call("begin", begin(64), room=64, zone=2, key=KEY),
             Call("would", would(cards[0]["content"]), **cards[0]), Call("begin", begin(), room=5, zone=2, key=KEY)]
    while len(calls) < STEPS:
        step = len(calls)
        name = chooser.one_of(["open"] * 12 + ["would"] * 3 + ["bolt"] * 2 + ["day", "book", "state"])
        if chooser.below(50) == 0:
            name = "begin"
        if name in ("open", "would"):
            if chooser.below(3) > 0:
                cards.append(some_card(chooser, step))
            told = chooser.one_of(cards[-6:])
            calls.append(Call(name, (show if name == "open" else would)(told["content"]), **told))
        elif name == "bolt":
            on = chooser.one_of((0, 0, 0, 1, 1, 2, 4294967295))
            calls.append(Call(name, bolt(on), on=on))
        elif name == "day":
            d = chooser.one_of((step // 16 + chooser.below(3), step // 16, 0, 65536))
            calls.append(Call(name, day(d), d=d))
        elif name == "book":
            k = chooser.one_of((0, 1, 2, 15, 16, 4294967295))
            calls.append(Call(name, book(k), k=k))
        elif name == "begin":
            calls.append(some_begin(chooser))
        else:
            calls.append(Call(name, state()))
    return calls


class Step:
    """A call, its answer, and how the door stood ahead of it and behind it (None where there was no door)."""

    def __init__(self, call, answer, ahead, behind):
        self.call = call
        self.answer = answer
        self.ahead = ahead
        self.behind = behind

    def is_taken_card(self):
        return self.call.name == "open" and self.answer[0] > 0

    def is_new_door(self):
        return self.call.name == "begin" and self.answer == [0]


class Standing:
    def __init__(self, told, entries):
        self.bolted, self.room, self.zone, self.day, self.number, self.round, self.count = told
        self.entries = [entry for entry in entries if entry != [-2]]
        self.all = (told, entries)


def watched(calls):
    """The steps of a list in which the state and the whole book are asked for behind each call."""
    probes = [state()] + WHOLE_BOOK
    parts = answered(*[part for call in calls for part in [call.numbers] + probes])
    steps, ahead = [], None
    for at, call in enumerate(calls):
        answer, told, *entries = parts[18 * at:18 * at + 18]
        behind = None if told == [-61] else Standing(told, entries)
        steps.append(Step(call, answer, ahead, behind))
        ahead = behind
    return steps


class ModelDoor:
    """What the document tells of a door, written row by row as it stands there."""

    def __init__(self, room, zone, key):
        self.room, self.zone, self.key = room, zone, key
        self.day = self.number = self.round = self.bolted = 0
        self.book = []

    def verdict(self, told):
        kind, place, number = told["kind"], told["place"], told["number"]
        places = range(64) if kind in ROOM_KINDS else range(1, 256) if kind == STAFF else (255,)
        if len(told["content"]) != 16 or told["key"] != self.key or place not in places:
            return -71
        if kind in ROOM_KINDS and place != self.room:
            return -13
        if kind == STAFF and place // 2 ** self.zone % 2 == 0:
            return -13
        if told["last"] < self.day:
            return -34
        if number < (self.number if kind in ROOM_KINDS else self.round):
            return -17
        if self.bolted and kind in (GUEST, STAFF):
            return -15
        return {GUEST: 1, STAFF: 2, SHUTTING: 3, EMERGENCY: 4}[kind]

    def shown(self, told):
        answer = self.verdict(told)
        if answer in (1, 3):
            self.number = told["number"]
        if answer in (2, 4):
            self.round = told["number"]
        if answer == 4:
            self.bolted = 0
        if answer > 0:
            self.book = [[told["kind"], told["number"], told["serial"], self.day]] + self.book[:15]
        return answer


def model_answers(calls):
    door, parts = None, []
    for call in calls:
        told = call.told
        if call.name == "begin":
            right = told["room"] <= 63 and told["zone"] <= 7 and len(told["key"]) == 16
            door = ModelDoor(told["room"], told["zone"], told["key"]) if right else door
            parts.append([0 if right else -22])
        elif door is None:
            parts.append([-61])
        elif call.name == "day":
            right = door.day <= told["d"] <= 65535
            door.day = told["d"] if right else door.day
            parts.append([0 if right else -22])
        elif call.name == "bolt":
            right = told["on"] in (0, 1)
            door.bolted = told["on"] if right else door.bolted
            parts.append([0 if right else -22])
        elif call.name == "book":
            parts.append(door.book[told["k"]] if told["k"] < len(door.book) else [-2])
        elif call.name == "state":
            parts.append([door.bolted, door.room, door.zone, door.day, door.number, door.round, len(door.book)])
        else:
            parts.append([door.shown(told) if call.name == "open" else door.verdict(told)])
    return parts


class WholeTest(unittest.TestCase):
    @classmethod
    def setUpClass(cls):
        cls.lists = [watched(some_calls(seed)) for seed in SEEDS]

    def steps(self, ahead=True):
        """Every step of every list; with ahead, those alone ahead of which there was a door."""
        return [step for steps in self.lists for step in steps if not ahead or step.ahead is not None]

    def test_the_lists_are_such_as_may_be_handed_in_and_meet_every_answer(self):
        met = set()
        for seed, steps in zip(SEEDS, self.lists):
            calls = some_calls(seed)
            self.assertLessEqual(len(calls) * 18, 5000)
            self.assertLessEqual(len(line(*[part for call in calls for part in [call.numbers, state()] + WHOLE_BOOK])),
                                 31000)
            self.assertEqual({call.name for call in calls},
                             {"begin", "day", "open", "would", "bolt", "book", "state"})
            met |= {(step.call.name, step.answer[0]) for step in steps}
        for name in ("open", "would"):
            for answer in (1, 2, 3, 4, -71, -13, -34, -17, -15):
                self.assertIn((name, answer), met)
        for name in ("begin", "day", "bolt"):
            self.assertLess({(name, 0), (name, -22)}, met)
        self.assertLess({("book", -2), ("book", 1), ("state", 0), ("state", 1), ("state", -61)}, met)
        self.assertLess({(name, -61) for name in ("open", "would", "bolt", "day", "book")}, met)

    def test_all_answers_are_those_of_the_documents_rows(self):
        for seed in range(40):
            calls = some_calls(seed)
            with self.subTest(seed=seed):
                self.assertEqual(answered(*[call.numbers for call in calls]), model_answers(calls))

    def test_a_number_round_and_day_never_fall(self):
        for step in self.steps():
            if not step.is_new_door():
                self.assertGreaterEqual(step.behind.number, step.ahead.number)
                self.assertGreaterEqual(step.behind.round, step.ahead.round)
                self.assertGreaterEqual(step.behind.day, step.ahead.day)

    def test_a_what_is_learned_is_what_a_taken_card_tells(self):
        for step in self.steps():
            if not step.is_taken_card() and not step.is_new_door():
                self.assertEqual((step.behind.number, step.behind.round), (step.ahead.number, step.ahead.round))
            elif step.is_taken_card():
                number, kind = step.call.told["number"], step.call.told["kind"]
                due = (number, step.ahead.round) if kind in ROOM_KINDS else (step.ahead.number, number)
                self.assertEqual((step.behind.number, step.behind.round), due)

    def test_b_just_such_cards_are_taken(self):
        for steps in self.lists:
            key = None
            for step in steps:
                if step.is_new_door():
                    key = step.call.told["key"]
                elif step.call.name in ("open", "would") and step.ahead is not None:
                    with self.subTest(told=step.call.told):
                        self.assertEqual(step.answer[0] > 0, self.is_right(step.call.told, step.ahead, key))

    def is_right(self, told, door, key):
        if told["content"] != card(told["kind"], told["place"], told["number"], told["last"], told["serial"], key):
            return False
        if told["kind"] in ROOM_KINDS:
            mine, learned = told["place"] == door.room, door.number
        else:
            mine = told["place"] & (1 << door.zone) if told["kind"] == STAFF else told["place"] == 255
            learned = door.round
        free = not door.bolted or told["kind"] in (SHUTTING, EMERGENCY)
        return bool(mine and told["last"] >= door.day and told["number"] >= learned and free)

    def test_c_behind_a_newer_card_an_older_one_never_opens(self):
        for steps in self.lists:
            newest = {}
            for step in steps:
                if step.is_new_door():
                    newest = {}
                elif step.is_taken_card():
                    told = step.call.told
                    side = told["kind"] in ROOM_KINDS
                    self.assertGreaterEqual(told["number"], newest.get(side, 0))
                    newest[side] = told["number"]

    def test_c_who_opened_opens_again_till_told_otherwise(self):
        seen_again = 0
        for steps in self.lists:
            opened = []
            for step in steps:
                told = step.call.told
                if step.is_new_door():
                    opened = []
                elif step.call.name == "open" and told["content"] in [known["content"] for known in opened]:
                    if told["last"] >= step.ahead.day and (told["kind"] == EMERGENCY or not step.ahead.bolted):
                        seen_again += 1
                        self.assertEqual(step.answer, [told["kind"]])
                if step.is_taken_card():
                    # A newer card of the same side ends what was known of the older ones.
                    opened = [known for known in opened if known["number"] >= told["number"]
                              or (known["kind"] in ROOM_KINDS) != (told["kind"] in ROOM_KINDS)]
                    if told["kind"] != SHUTTING:
                        opened.append(told)
        self.assertGreater(seen_again, 20)

    def test_d_the_book_tells_what_was_taken(self):
        for steps in self.lists:
            due = []
            for step in steps:
                if step.is_new_door():
                    due = []
                if step.is_taken_card():
                    told = step.call.told
                    due.insert(0, [step.answer[0], told["number"], told["serial"], step.ahead.day])
                if step.behind is not None:
                    self.assertEqual(step.behind.entries, due[:16])
                    self.assertEqual(step.behind.count, len(due[:16]))

    def test_d_what_is_refused_changes_nothing(self):
        for step in self.steps(ahead=False):
            if step.answer[0] < 0 and step.ahead is None:
                self.assertIsNone(step.behind)
            elif step.answer[0] < 0 or step.call.name in ("would", "book", "state"):
                with self.subTest(call=step.call.numbers):
                    self.assertEqual(step.behind.all, step.ahead.all)

    def test_the_bolt_is_moved_by_bolt_an_emergency_and_a_new_door_alone(self):
        for step in self.steps():
            if step.call.name == "bolt" and step.answer == [0]:
                self.assertEqual(step.behind.bolted, step.call.told["on"])
            elif step.is_new_door() or step.answer == [4] and step.is_taken_card():
                self.assertEqual(step.behind.bolted, 0)
            else:
                self.assertEqual(step.behind.bolted, step.ahead.bolted)
