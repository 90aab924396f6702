"""What a shown card does to a door's bolt and book, which no call tells of by itself yet."""

import unittest

from learningdoor.door import Door
from tests.helper import EMERGENCY, GUEST, KEY, OTHER_KEY, SHUTTING, STAFF, card


def bolted_door():
    door = Door(5, 2, list(KEY))
    door.bolted = True
    return door


class BoltedTest(unittest.TestCase):
    def test_a_new_door_is_not_bolted(self):
        self.assertIs(Door(5, 2, KEY).bolted, False)

    def test_guest_and_staff_stay_outside_and_teach_nothing(self):
        door = bolted_door()
        for content in (card(GUEST, 5, 9), card(STAFF, 4, 9)):
            self.assertEqual(door.would_answer(content), -15)
            self.assertEqual(door.show(content), -15)
        self.assertEqual((door.learned_number, door.learned_round, door.bolted, door.book), (0, 0, True, []))

    def test_the_bolt_is_told_last(self):
        door = bolted_door()
        self.assertEqual(door.show(card(SHUTTING, 5, 9)), 3)
        door.learned_round = 9
        door.move_day(3)
        self.assertEqual([door.show(content) for content in (
            card(GUEST, 5, 9, 3, key=OTHER_KEY), card(GUEST, 6, 9, 3), card(GUEST, 5, 9, 2), card(GUEST, 5, 8, 3),
            card(GUEST, 5, 9, 3), card(STAFF, 8, 9, 3), card(STAFF, 4, 9, 2), card(STAFF, 4, 8, 3),
            card(STAFF, 4, 9, 3))], [-71, -13, -34, -17, -15, -13, -34, -17, -15])

    def test_one_that_shuts_teaches_a_bolted_door(self):
        door = bolted_door()
        self.assertEqual(door.would_answer(card(SHUTTING, 5, 9)), 3)
        self.assertEqual(door.show(card(SHUTTING, 5, 9)), 3)
        self.assertEqual((door.learned_number, door.bolted), (9, True))

    def test_an_emergency_takes_the_bolt_away(self):
        door = bolted_door()
        self.assertEqual(door.would_answer(card(EMERGENCY, 255, 9)), 4)
        self.assertIs(door.bolted, True)
        self.assertEqual(door.show(card(EMERGENCY, 255, 9)), 4)
        self.assertEqual((door.learned_round, door.bolted), (9, False))
        self.assertEqual(door.show(card(GUEST, 5, 9)), 1)

    def test_an_emergency_by_an_older_round_leaves_it(self):
        door = bolted_door()
        door.learned_round = 9
        self.assertEqual(door.show(card(EMERGENCY, 255, 8)), -17)
        self.assertIs(door.bolted, True)


class BookTest(unittest.TestCase):
    def test_a_new_door_has_an_empty_book(self):
        self.assertEqual(Door(5, 2, KEY).book, [])

    def test_every_kind_is_written_with_the_doors_day(self):
        door = Door(5, 2, KEY)
        door.show(card(GUEST, 5, 1, 50, 11))
        door.move_day(7)
        door.show(card(STAFF, 4, 2, 50, 12))
        door.show(card(SHUTTING, 5, 3, 50, 13))
        door.move_day(8)
        door.show(card(EMERGENCY, 255, 4, 50, 14))
        self.assertEqual(door.book, [(1, 1, 11, 0), (2, 2, 12, 7), (3, 3, 13, 7), (4, 4, 14, 8)])

    def test_the_largest_values_are_written_whole(self):
        door = Door(5, 2, KEY)
        door.move_day(65535)
        door.show(card(GUEST, 5, 65534, 65535, 65533))
        self.assertEqual(door.book, [(1, 65534, 65533, 65535)])

    def test_neither_a_refusal_nor_would_is_written(self):
        door = Door(5, 2, KEY)
        door.would_answer(card(GUEST, 5))
        for content in ([], card(GUEST, 5, key=OTHER_KEY), card(GUEST, 6), card(STAFF, 8)):
            door.show(content)
        self.assertEqual(door.book, [])

    def test_the_last_sixteen_are_kept(self):
        door = Door(5, 2, KEY)
        for serial in range(16):
            door.show(card(GUEST, 5, 0, 0, serial))
        self.assertEqual(door.book, [(1, 0, serial, 0) for serial in range(16)])
        door.show(card(GUEST, 5, 0, 0, 16))
        self.assertEqual(door.book, [(1, 0, serial, 0) for serial in range(1, 17)])
