import unittest

from tests.helper import (EMERGENCY, GUEST, KEY, OTHER_KEY, SHUTTING, STAFF, answered, begin, bolt, book, card, day,
                          replies, show, state, would)


class BeginTest(unittest.TestCase):
    def test_a_door_begins(self):
        self.assertEqual(replies(begin(0, 0)), [0])
        self.assertEqual(replies(begin(63, 7)), [0])

    def test_a_key_has_sixteen_bytes(self):
        for length, answer in ((15, -22), (16, 0), (17, -22), (0, -22), (1, -22), (32, -22), (100, -22)):
            with self.subTest(length=length):
                self.assertEqual(replies(begin(key=[9] * length)), [answer])

    def test_a_room_is_at_most_63(self):
        for room, answer in ((63, 0), (64, -22), (255, -22), (256, -22), (4294967295, -22)):
            with self.subTest(room=room):
                self.assertEqual(replies(begin(room=room)), [answer])

    def test_a_zone_is_at_most_7(self):
        for zone, answer in ((7, 0), (8, -22), (256, -22), (4294967295, -22)):
            with self.subTest(zone=zone):
                self.assertEqual(replies(begin(zone=zone)), [answer])

    def test_all_wrong_at_once(self):
        self.assertEqual(replies(begin(64, 8, [])), [-22])

    def test_without_a_door_all_others_are_refused(self):
        pass_card = card(GUEST, 5)
        self.assertEqual(replies(day(0), day(65536), show(pass_card), would(pass_card), show([]), would([1] * 100)),
                         [-61] * 6)
        self.assertEqual(replies(bolt(0), bolt(1), book(0), state()), [-61] * 4)

    def test_each_of_the_others_is_refused_as_the_first_call(self):
        for call in (day(0), show(card(GUEST, 5)), would(card(GUEST, 5)), bolt(0), bolt(1), book(0), state()):
            with self.subTest(call=call):
                self.assertEqual(replies(call), [-61])
                self.assertEqual(answered(call, begin(), state()), [[-61], [0], [0, 5, 2, 0, 0, 0, 0]])

    def test_no_door_is_told_ahead_of_other_refusals(self):
        self.assertEqual(replies(day(65536), day(4294967295), show([]), would([0] * 16), bolt(2), bolt(4294967295),
                                 book(16), book(4294967295)), [-61] * 8)

    def test_a_refused_begin_makes_no_door(self):
        for wrong in (begin(room=64), begin(zone=8), begin(key=KEY[:15])):
            with self.subTest(wrong=wrong):
                self.assertEqual(replies(wrong, day(1), show(card(GUEST, 5)), would(card(GUEST, 5)), bolt(0), bolt(1),
                                         bolt(2), book(0), book(4294967295), state()), [-22] + [-61] * 9)

    def test_the_door_has_the_room_zone_and_key_told(self):
        for room, zone, key in ((0, 0, KEY), (63, 7, OTHER_KEY), (8, 3, [0] * 16), (17, 4, [255] * 16)):
            with self.subTest(room=room, zone=zone):
                self.assertEqual(replies(begin(room, zone, key),
                                         show(card(GUEST, room, key=key)),
                                         show(card(STAFF, 1 << zone, key=key)),
                                         show(card(GUEST, (room + 1) % 64, key=key)),
                                         show(card(STAFF, 255 - (1 << zone), key=key))),
                                 [0, 1, 2, -13, -13])

    def test_a_new_door_stands_at_day_0_and_has_learned_nothing(self):
        self.assertEqual(replies(begin(), show(card(GUEST, 5)), show(card(SHUTTING, 5)), show(card(STAFF, 4)),
                                 show(card(EMERGENCY, 255)), day(0)), [0, 1, 3, 2, 4, 0])

    def test_a_refused_begin_leaves_the_door_as_it_was(self):
        wrong = (begin(room=64, zone=1, key=OTHER_KEY), begin(room=9, zone=8, key=OTHER_KEY),
                 begin(room=9, zone=1, key=OTHER_KEY + [0]), begin(room=9, zone=1, key=[]))
        for call in wrong:
            with self.subTest(call=call):
                self.assertEqual(replies(begin(), day(30), show(card(GUEST, 5, 7, 30)), show(card(STAFF, 4, 8, 30)),
                                         call,
                                         day(29), would(card(GUEST, 5, 7, 29)), would(card(GUEST, 5, 6, 30)),
                                         would(card(STAFF, 4, 7, 30)), would(card(GUEST, 9, 9, 30)),
                                         would(card(STAFF, 2, 9, 30)), would(card(GUEST, 5, 9, 30, key=OTHER_KEY)),
                                         show(card(GUEST, 5, 7, 30)), show(card(STAFF, 4, 8, 30))),
                                 [0, 0, 1, 2, -22, -22, -34, -17, -17, -13, -13, -71, 1, 2])

    def test_a_second_begin_makes_a_new_door(self):
        self.assertEqual(replies(begin(), day(30), show(card(GUEST, 5, 7, 30)), show(card(STAFF, 4, 8, 30)),
                                 begin(9, 1, OTHER_KEY),
                                 show(card(GUEST, 5, 7, 30)), show(card(GUEST, 5, 7, 30, key=OTHER_KEY)),
                                 show(card(STAFF, 4, 8, 30, key=OTHER_KEY)),
                                 show(card(GUEST, 9, 0, 0, key=OTHER_KEY)),
                                 show(card(STAFF, 2, 0, 0, key=OTHER_KEY)), day(0), day(1)),
                         [0, 0, 1, 2, 0, -71, -13, -13, 1, 2, 0, 0])

    def test_a_second_begin_with_the_same_words_forgets_as_well(self):
        self.assertEqual(replies(begin(), day(30), show(card(GUEST, 5, 7, 30)), show(card(STAFF, 4, 8, 30)), begin(),
                                 show(card(GUEST, 5)), show(card(STAFF, 4)), day(0)),
                         [0, 0, 1, 2, 0, 1, 2, 0])
