import unittest

from tests.helper import (EMERGENCY, GUEST, OTHER_KEY, SHUTTING, STAFF, begin, bolt, book_behind, card, day, replies,
                          show, state_behind, would)

ABOVE_1 = (2, 3, 255, 256, 257, 65536, 2147483648, 4294967294, 4294967295)


class BoltTest(unittest.TestCase):
    def test_on_is_0_or_1(self):
        for on in (0, 1):
            with self.subTest(on=on):
                self.assertEqual(replies(begin(), bolt(on)), [0, 0])
                self.assertEqual(state_behind(begin(), bolt(on))[0], on)

    def test_on_above_1(self):
        for on in ABOVE_1:
            with self.subTest(on=on):
                self.assertEqual(replies(begin(), bolt(on)), [0, -22])

    def test_a_refused_one_changes_nothing(self):
        for was in (0, 1):
            ready = [begin(), day(3), show(card(GUEST, 5, 7, 9, 1)), show(card(STAFF, 4, 8, 9, 2)), bolt(was)]
            for on in ABOVE_1:
                with self.subTest(was=was, on=on):
                    self.assertEqual(state_behind(*ready, bolt(on)), [was, 5, 2, 3, 7, 8, 2])
                    self.assertEqual(book_behind(*ready, bolt(on)), [[2, 8, 2, 3], [1, 7, 1, 3]])
                    self.assertEqual(replies(*ready, bolt(on), show(card(GUEST, 5, 7, 9)))[-1], -15 if was else 1)

    def test_a_taken_one_changes_the_bolt_alone(self):
        ready = [begin(), day(3), show(card(GUEST, 5, 7, 9, 1)), show(card(STAFF, 4, 8, 9, 2))]
        for on in (0, 1):
            self.assertEqual(state_behind(*ready, bolt(on)), [on, 5, 2, 3, 7, 8, 2])
            self.assertEqual(book_behind(*ready, bolt(on)), [[2, 8, 2, 3], [1, 7, 1, 3]])

    def test_twice(self):
        guest = show(card(GUEST, 5))
        self.assertEqual(replies(begin(), bolt(1), bolt(1), guest, bolt(0), guest), [0, 0, 0, -15, 0, 1])
        self.assertEqual(replies(begin(), bolt(0), bolt(0), guest, bolt(1), guest), [0, 0, 0, 1, 0, -15])
        self.assertEqual(state_behind(begin(), bolt(1), bolt(1))[0], 1)
        self.assertEqual(state_behind(begin(), bolt(1), bolt(0), bolt(0))[0], 0)

    def test_a_new_door_is_not_bolted(self):
        guest = show(card(GUEST, 5))
        self.assertEqual(replies(begin(), guest, bolt(1), guest, begin(), guest), [0, 1, 0, -15, 0, 1])

    def test_day_refusals_and_a_refused_begin_leave_it(self):
        self.assertEqual(state_behind(begin(), bolt(1), day(4))[0], 1)
        self.assertEqual(state_behind(begin(), bolt(1), day(65536), show([]), begin(64), begin(zone=8))[0], 1)
        self.assertEqual(state_behind(begin(), bolt(0), day(4), day(65536), show([]), begin(64))[0], 0)


class BoltedDoorTest(unittest.TestCase):
    # The door stands at day 10, has learned the number 20 and the round 30, and is bolted; two stand in its book.
    ready = [begin(), day(10), show(card(GUEST, 5, 20, 10, 1)), show(card(STAFF, 4, 30, 10, 2)), bolt(1)]
    ready_state = [1, 5, 2, 10, 20, 30, 2]
    ready_book = [[2, 30, 2, 10], [1, 20, 1, 10]]

    def check(self, content, answer, state, book):
        """Ahead of the showing would answers the same; behind it the state and the book are these."""
        calls = self.ready + [would(content), would(content), show(content)]
        self.assertEqual(replies(*calls)[-3:], [answer] * 3)
        self.assertEqual(state_behind(*calls), state)
        self.assertEqual(book_behind(*calls), book)

    def check_refused(self, content, answer):
        self.check(content, answer, self.ready_state, self.ready_book)

    def test_a_guests_and_staffs_card(self):
        for number in (20, 21, 65535):
            self.check_refused(card(GUEST, 5, number, 10), -15)
            self.check_refused(card(GUEST, 5, number, 65535), -15)
        for number in (30, 31, 65535):
            self.check_refused(card(STAFF, 4, number, 10), -15)
            self.check_refused(card(STAFF, 255, number, 65535), -15)

    def test_the_bolt_is_told_last(self):
        for kind, mine, other, learned in ((GUEST, 5, 6, 20), (STAFF, 4, 251, 30)):
            with self.subTest(kind=kind):
                self.check_refused(card(kind, mine, learned, 10, key=OTHER_KEY), -71)
                self.check_refused(card(kind, mine, learned, 10)[:15], -71)
                self.check_refused(card(kind, other, learned, 10), -13)
                self.check_refused(card(kind, other, learned - 1, 9), -13)
                self.check_refused(card(kind, mine, learned, 9), -34)
                self.check_refused(card(kind, mine, learned - 1, 9), -34)
                self.check_refused(card(kind, mine, learned - 1, 10), -17)
                self.check_refused(card(kind, mine, learned, 10), -15)

    def test_a_newer_card_kept_out_by_the_bolt_teaches_nothing(self):
        self.assertEqual(replies(*self.ready, show(card(GUEST, 5, 90, 99)), show(card(STAFF, 4, 90, 99)), bolt(0),
                                 show(card(GUEST, 5, 20, 10)), show(card(STAFF, 4, 30, 10)))[-5:], [-15, -15, 0, 1, 2])

    def test_one_that_shuts_is_learned_and_the_door_stays_bolted(self):
        for number in (20, 21, 300, 65535):
            with self.subTest(number=number):
                self.check(card(SHUTTING, 5, number, 10, 9), 3, [1, 5, 2, 10, number, 30, 3],
                           [[3, number, 9, 10]] + self.ready_book)

    def test_one_that_shuts_keeps_older_guests_out_when_the_bolt_is_gone(self):
        older, same = show(card(GUEST, 5, 20, 10)), show(card(GUEST, 5, 21, 10))
        self.assertEqual(replies(*self.ready, show(card(SHUTTING, 5, 21, 10)), older, same, bolt(0), older, same)[-6:],
                         [3, -17, -15, 0, -17, 1])

    def test_one_that_shuts_refused(self):
        self.check_refused(card(SHUTTING, 5, 21, 10, key=OTHER_KEY), -71)
        self.check_refused(card(SHUTTING, 6, 21, 10), -13)
        self.check_refused(card(SHUTTING, 5, 21, 9), -34)
        self.check_refused(card(SHUTTING, 5, 19, 10), -17)

    def test_an_emergencys_opens_and_takes_the_bolt_away(self):
        for number in (30, 31, 300, 65535):
            with self.subTest(number=number):
                self.check(card(EMERGENCY, 255, number, 10, 9), 4, [0, 5, 2, 10, 20, number, 3],
                           [[4, number, 9, 10]] + self.ready_book)

    def test_others_open_behind_an_emergencys(self):
        guest, staff = show(card(GUEST, 5, 20, 10)), show(card(STAFF, 4, 30, 10))
        newer_staff = show(card(STAFF, 4, 31, 10))
        self.assertEqual(replies(*self.ready, guest, staff, show(card(EMERGENCY, 255, 31, 10)), guest, staff,
                                 newer_staff, bolt(1), guest, newer_staff)[-9:], [-15, -15, 4, 1, -17, 2, 0, -15, -15])

    def test_an_emergencys_refused_leaves_it_bolted(self):
        self.check_refused(card(EMERGENCY, 255, 29, 10), -17)
        self.check_refused(card(EMERGENCY, 255, 0, 65535), -17)
        self.check_refused(card(EMERGENCY, 255, 31, 9), -34)
        self.check_refused(card(EMERGENCY, 255, 29, 9), -34)
        self.check_refused(card(EMERGENCY, 254, 31, 10), -71)
        self.check_refused(card(EMERGENCY, 255, 31, 10, key=OTHER_KEY), -71)

    def test_an_emergencys_asked_about_leaves_it_bolted(self):
        calls = self.ready + [would(card(EMERGENCY, 255, 31, 10))]
        self.assertEqual(replies(*calls)[-1], 4)
        self.assertEqual(state_behind(*calls), self.ready_state)
        self.assertEqual(replies(*calls, show(card(GUEST, 5, 20, 10)))[-1], -15)

    def test_an_emergencys_before_a_door_that_is_not_bolted(self):
        calls = self.ready + [bolt(0), show(card(EMERGENCY, 255, 30, 10))]
        self.assertEqual(replies(*calls)[-1], 4)
        self.assertEqual(state_behind(*calls), [0, 5, 2, 10, 20, 30, 3])

    def test_a_new_door_bolted_at_once(self):
        self.assertEqual(replies(begin(), bolt(1), show(card(GUEST, 5)), show(card(STAFF, 4)), show(card(SHUTTING, 5)),
                                 show(card(GUEST, 5)), show(card(EMERGENCY, 255)), show(card(GUEST, 5)),
                                 show(card(STAFF, 4))), [0, 0, -15, -15, 3, -15, 4, 1, 2])
