import unittest

from tests.helper import (EMERGENCY, GUEST, KEY, OTHER_KEY, SHUTTING, STAFF, answered, begin, bolt, book, card, day,
                          show, state, state_behind, would)


class StateTest(unittest.TestCase):
    def test_of_a_new_door(self):
        for room, zone in ((0, 0), (5, 2), (2, 5), (63, 7), (63, 0), (0, 7)):
            with self.subTest(room=room, zone=zone):
                self.assertEqual(state_behind(begin(room, zone)), [0, room, zone, 0, 0, 0, 0])

    def test_behind_each_kind_of_card(self):
        for kind, place, due in ((GUEST, 5, [0, 5, 2, 0, 300, 0, 1]), (SHUTTING, 5, [0, 5, 2, 0, 300, 0, 1]),
                                 (STAFF, 4, [0, 5, 2, 0, 0, 300, 1]), (EMERGENCY, 255, [0, 5, 2, 0, 0, 300, 1])):
            with self.subTest(kind=kind):
                self.assertEqual(state_behind(begin(), show(card(kind, place, 300, 9, 8))), due)

    def test_behind_each_kind_of_card_before_a_bolted_door(self):
        for kind, place, due in ((GUEST, 5, [1, 5, 2, 0, 0, 0, 0]), (SHUTTING, 5, [1, 5, 2, 0, 300, 0, 1]),
                                 (STAFF, 4, [1, 5, 2, 0, 0, 0, 0]), (EMERGENCY, 255, [0, 5, 2, 0, 0, 300, 1])):
            with self.subTest(kind=kind):
                self.assertEqual(state_behind(begin(), bolt(1), show(card(kind, place, 300, 9, 8))), due)

    def test_behind_a_card_asked_about(self):
        for kind, place in ((GUEST, 5), (SHUTTING, 5), (STAFF, 4), (EMERGENCY, 255)):
            for on in (0, 1):
                with self.subTest(kind=kind, on=on):
                    self.assertEqual(state_behind(begin(), bolt(on), would(card(kind, place, 300, 9, 8))),
                                     [on, 5, 2, 0, 0, 0, 0])

    def test_behind_a_refused_card(self):
        ready = [begin(), day(10), show(card(GUEST, 5, 20, 10)), show(card(STAFF, 4, 30, 10))]
        for wrong in ([], card(GUEST, 5, 90, 99)[:15], card(GUEST, 5, 90, 99, key=OTHER_KEY), card(GUEST, 6, 90, 99),
                      card(SHUTTING, 6, 90, 99), card(STAFF, 251, 90, 99), card(GUEST, 5, 90, 9), card(STAFF, 4, 90, 9),
                      card(EMERGENCY, 255, 90, 9), card(GUEST, 5, 19, 99), card(STAFF, 4, 29, 99),
                      card(EMERGENCY, 255, 29, 99), card(EMERGENCY, 254, 90, 99)):
            with self.subTest(wrong=wrong):
                self.assertEqual(state_behind(*ready, show(wrong)), [0, 5, 2, 10, 20, 30, 2])

    def test_behind_bolt_and_day(self):
        self.assertEqual(state_behind(begin(), bolt(1)), [1, 5, 2, 0, 0, 0, 0])
        self.assertEqual(state_behind(begin(), bolt(1), bolt(0)), [0, 5, 2, 0, 0, 0, 0])
        self.assertEqual(state_behind(begin(), bolt(1), bolt(2)), [1, 5, 2, 0, 0, 0, 0])
        self.assertEqual(state_behind(begin(), day(300)), [0, 5, 2, 300, 0, 0, 0])
        self.assertEqual(state_behind(begin(), day(65535), day(65536)), [0, 5, 2, 65535, 0, 0, 0])
        self.assertEqual(state_behind(begin(), bolt(1), day(30), day(29)), [1, 5, 2, 30, 0, 0, 0])

    def test_each_value_apart_and_the_largest(self):
        self.assertEqual(state_behind(begin(9, 3), day(11), show(card(GUEST, 9, 13, 99)), show(card(STAFF, 8, 17, 99)),
                                      show(card(GUEST, 9, 13, 99)), bolt(1)), [1, 9, 3, 11, 13, 17, 3])
        self.assertEqual(state_behind(begin(63, 7), day(65535), show(card(GUEST, 63, 65535, 65535)),
                                      show(card(STAFF, 128, 65534, 65535)), bolt(1)),
                         [1, 63, 7, 65535, 65535, 65534, 2])

    def test_how_many_stand_in_the_book(self):
        for kind, place in ((GUEST, 5), (STAFF, 4), (SHUTTING, 5), (EMERGENCY, 255)):
            shown = show(card(kind, place))
            for showings, due in ((0, 0), (1, 1), (2, 2), (15, 15), (16, 16), (17, 16), (18, 16), (100, 16)):
                with self.subTest(kind=kind, showings=showings):
                    self.assertEqual(state_behind(begin(), *[shown] * showings), [0, 5, 2, 0, 0, 0, due])

    def test_state_itself_changes_nothing(self):
        calls = [begin(), day(4), show(card(GUEST, 5, 3, 9, 1)), show(card(STAFF, 4, 2, 9, 6)), bolt(1)]
        asked = [state(), state(), book(0), state(), book(1), book(2), state()]
        told = [1, 5, 2, 4, 3, 2, 2]
        self.assertEqual(answered(*calls, *asked)[5:], [told, told, [2, 2, 6, 4], told, [1, 3, 1, 4], [-2], told])

    def test_behind_begin(self):
        calls = [begin(), day(4), show(card(GUEST, 5, 3, 9)), show(card(STAFF, 4, 2, 9)), bolt(1)]
        for room, zone, key in ((5, 2, KEY), (6, 1, OTHER_KEY)):
            self.assertEqual(state_behind(*calls, begin(room, zone, key)), [0, room, zone, 0, 0, 0, 0])
        for wrong in (begin(64), begin(zone=8), begin(6, 1, KEY[:15]), begin(6, 1, KEY + [0])):
            self.assertEqual(state_behind(*calls, wrong), [1, 5, 2, 4, 3, 2, 2])
