import unittest

from tests.helper import (EMERGENCY, GUEST, KEY, OTHER_KEY, SHUTTING, STAFF, begin, card, day, message, replies, show,
                          tag, would)

# Cards by the key 00 01 .. 0f, signed by another program.
READY_GUEST = list(bytes.fromhex("01050100 0a000700 d159eb3c399793c0"))
READY_STAFF = list(bytes.fromhex("0204ff01 0002ffff d9a32dc6e77b71d4"))
READY_SHUTTING = list(bytes.fromhex("033f0080 ffff0001 de94e60c94282b13"))
READY_EMERGENCY = list(bytes.fromhex("04ffffff 2c013930 5f7f23f120d64ce9"))


def signed(told, key=KEY):
    return told + tag(told, key)


class Shown(unittest.TestCase):
    """Each card is asked about by would ahead of being shown: the same number is due."""

    def check(self, calls, *steps):
        asked, due = list(calls), [0] * len(calls)
        for content, answer in steps:
            asked += [would(content), would(content), show(content)]
            due += [answer] * 3
        self.assertEqual(replies(*asked), due)


class KindsTest(Shown):
    def test_each_kind_does_as_told(self):
        self.check([begin()], (card(GUEST, 5), 1), (card(STAFF, 4), 2), (card(SHUTTING, 5), 3),
                   (card(EMERGENCY, 255), 4))

    def test_ready_cards(self):
        self.check([begin(5, 2)], (READY_GUEST, 1), (READY_STAFF, 2), (READY_SHUTTING, -13), (READY_EMERGENCY, 4))
        self.check([begin(63, 3)], (READY_GUEST, -13), (READY_STAFF, -13), (READY_SHUTTING, 3), (READY_EMERGENCY, 4))
        self.check([begin(63, 3), day(300)], (READY_EMERGENCY, 4))
        self.check([begin(63, 3), day(301)], (READY_EMERGENCY, -34))
        self.check([begin(5, 2), day(10)], (READY_GUEST, 1))
        self.check([begin(5, 2), day(512)], (READY_GUEST, -34), (READY_STAFF, 2))
        self.check([begin(5, 2), day(513)], (READY_STAFF, -34))

    def test_the_largest_values(self):
        self.check([begin(63, 7), day(65535)],
                   (card(GUEST, 63, 65535, 65535, 65535), 1), (card(SHUTTING, 63, 65535, 65535, 65535), 3),
                   (card(STAFF, 128, 65535, 65535, 65535), 2), (card(EMERGENCY, 255, 65535, 65535, 65535), 4),
                   (card(GUEST, 63, 65534, 65535, 65535), -17), (card(STAFF, 128, 65534, 65535, 65535), -17))

    def test_the_serial_number_decides_nothing(self):
        self.check([begin()], (card(GUEST, 5, 1, 1, 500), 1), (card(GUEST, 5, 1, 1, 2), 1), (card(GUEST, 5, 1, 1), 1))


class FormTest(Shown):
    def test_a_card_of_another_length(self):
        right = card(GUEST, 5)
        for wrong in ([], right[:1], right[:8], right[:15], right + [0], right + right, right + [0] * 84):
            with self.subTest(length=len(wrong)):
                self.check([begin()], (wrong, -71), (right, 1))

    def test_a_shorter_or_longer_card_with_a_right_tag(self):
        told = message(GUEST, 5)
        self.check([begin()], (signed(told[:7]), -71), (signed(told + [0]), -71), (signed(told[:0]), -71),
                   (signed(told * 2), -71), (signed(told), 1))

    def test_a_kind_that_there_is_not(self):
        for kind in [0] + list(range(5, 256)):
            with self.subTest(kind=kind):
                self.check([begin(1, 0)], (card(kind, 1), -71), (card(kind, 255), -71))

    def test_places_of_a_room(self):
        for kind in (GUEST, SHUTTING):
            for room in (0, 1, 5, 62, 63):
                self.check([begin(room)], (card(kind, room), kind))
            for place in range(64):
                self.check([begin(5)], (card(kind, place), kind if place == 5 else -13))
            for place in range(64, 256):
                self.check([begin(5)], (card(kind, place), -71))

    def test_places_of_staff(self):
        for zone in range(8):
            self.check([begin(zone=zone)], (card(STAFF, 0), -71))
            for place in range(1, 256):
                self.check([begin(zone=zone)], (card(STAFF, place), 2 if place & (1 << zone) else -13))

    def test_places_of_an_emergency(self):
        for place in range(255):
            self.check([begin(zone=place % 8)], (card(EMERGENCY, place), -71))
        for zone in range(8):
            self.check([begin(zone=zone)], (card(EMERGENCY, 255), 4))

    def test_a_changed_byte(self):
        for right in (card(GUEST, 5, 1, 9, 7), card(STAFF, 4, 1, 9, 7), card(SHUTTING, 5, 1, 9, 7),
                      card(EMERGENCY, 255, 1, 9, 7)):
            for at in range(16):
                for change in (1, 2, 128, 255):
                    wrong = list(right)
                    wrong[at] ^= change
                    with self.subTest(right=right, at=at, change=change):
                        self.check([begin()], (wrong, -71), (right, right[0]))

    def test_signed_by_another_key(self):
        for kind, place in ((GUEST, 5), (STAFF, 4), (SHUTTING, 5), (EMERGENCY, 255)):
            self.check([begin()], (card(kind, place, 9, 9, key=OTHER_KEY), -71), (card(kind, place), kind))

    def test_a_key_that_differs_in_one_bit(self):
        for at in range(16):
            near = list(KEY)
            near[at] ^= 1
            self.check([begin()], (card(GUEST, 5, key=near), -71))

    def test_a_tag_told_the_greatest_first(self):
        told = message(GUEST, 5)
        self.check([begin()], (told + tag(told, KEY)[::-1], -71))

    def test_what_is_no_card_teaches_nothing(self):
        self.check([begin()], (card(GUEST, 5, 9, 9, key=OTHER_KEY), -71), (card(STAFF, 4, 9, 9)[:15], -71),
                   (card(GUEST, 64, 9, 9), -71), (card(EMERGENCY, 254, 9, 9), -71), (card(7, 5, 9, 9), -71),
                   (card(GUEST, 5), 1), (card(STAFF, 4), 2))


class RefusalsTest(Shown):
    # The door of each of these stands at day 10 and has learned the number 20 and the round 30.
    ready = [begin(), day(10)]
    learned = ((card(GUEST, 5, 20, 10), 1), (card(STAFF, 4, 30, 10), 2))

    def test_the_last_day_itself_and_the_day_behind_it(self):
        for kind, place in ((GUEST, 5), (SHUTTING, 5), (STAFF, 4), (EMERGENCY, 255)):
            for last in (0, 9, 10, 11, 256, 65535):
                with self.subTest(kind=kind, last=last):
                    self.check(self.ready, (card(kind, place, 0, last), kind if last >= 10 else -34))

    def test_an_older_card(self):
        for kind, place, learned in ((GUEST, 5, 20), (SHUTTING, 5, 20), (STAFF, 4, 30), (EMERGENCY, 255, 30)):
            for number in (0, learned - 1, learned, learned + 1, 256, 65535):
                with self.subTest(kind=kind, number=number):
                    self.check(self.ready, *self.learned,
                               (card(kind, place, number, 10), kind if number >= learned else -17))

    def test_several_due_for_a_card_of_a_room(self):
        for kind in (GUEST, SHUTTING):
            self.check(self.ready, *self.learned,
                       (card(kind, 6, 19, 9, key=OTHER_KEY), -71), (card(kind, 64, 19, 9), -71),
                       (card(kind, 6, 19, 9), -13), (card(kind, 6, 20, 9), -13), (card(kind, 6, 19, 10), -13),
                       (card(kind, 5, 19, 9, key=OTHER_KEY), -71), (card(kind, 5, 19, 10, key=OTHER_KEY), -71),
                       (card(kind, 5, 19, 9), -34), (card(kind, 5, 19, 10), -17), (card(kind, 5, 20, 10), kind))

    def test_several_due_for_staff(self):
        self.check(self.ready, *self.learned,
                   (card(STAFF, 251, 29, 9, key=OTHER_KEY), -71), (card(STAFF, 0, 29, 9), -71),
                   (card(STAFF, 251, 29, 9), -13), (card(STAFF, 251, 30, 9), -13), (card(STAFF, 251, 29, 10), -13),
                   (card(STAFF, 4, 29, 9, key=OTHER_KEY), -71), (card(STAFF, 4, 29, 9), -34),
                   (card(STAFF, 4, 29, 10), -17), (card(STAFF, 4, 30, 10), 2))

    def test_several_due_for_an_emergency(self):
        self.check(self.ready, *self.learned,
                   (card(EMERGENCY, 255, 29, 9, key=OTHER_KEY), -71), (card(EMERGENCY, 254, 29, 9), -71),
                   (card(EMERGENCY, 255, 29, 9), -34), (card(EMERGENCY, 255, 29, 10), -17),
                   (card(EMERGENCY, 255, 30, 10), 4))

    def test_what_is_refused_teaches_nothing(self):
        self.check(self.ready, *self.learned,
                   (card(GUEST, 6, 90, 99), -13), (card(SHUTTING, 6, 90, 99), -13), (card(STAFF, 3, 90, 99), -13),
                   (card(GUEST, 5, 90, 9), -34), (card(SHUTTING, 5, 90, 9), -34), (card(STAFF, 4, 90, 9), -34),
                   (card(EMERGENCY, 255, 90, 9), -34), (card(GUEST, 5, 3, 99), -17), (card(STAFF, 4, 3, 99), -17),
                   (card(GUEST, 5, 19, 10), -17), (card(STAFF, 4, 29, 10), -17),
                   (card(GUEST, 5, 20, 10), 1), (card(STAFF, 4, 30, 10), 2))


class LearningTest(Shown):
    def test_the_same_card_again(self):
        for kind, place in ((GUEST, 5), (SHUTTING, 5), (STAFF, 4), (EMERGENCY, 255)):
            shown = (card(kind, place, 12, 34, 56), kind)
            self.check([begin()], shown, shown, shown)

    def test_a_card_of_the_same_number(self):
        self.check([begin()], (card(GUEST, 5, 12, 3, 1), 1), (card(GUEST, 5, 12, 4, 2), 1),
                   (card(SHUTTING, 5, 12, 5, 3), 3), (card(GUEST, 5, 12, 3, 1), 1),
                   (card(STAFF, 4, 12, 3, 1), 2), (card(STAFF, 5, 12, 4, 2), 2), (card(EMERGENCY, 255, 12, 5, 3), 4),
                   (card(STAFF, 4, 12, 3, 1), 2))

    def test_an_older_card_behind_a_newer_one(self):
        self.check([begin()], (card(GUEST, 5, 1), 1), (card(GUEST, 5, 2), 1), (card(GUEST, 5, 1), -17),
                   (card(SHUTTING, 5, 1), -17), (card(GUEST, 5, 2), 1), (card(GUEST, 5, 300), 1),
                   (card(GUEST, 5, 299), -17), (card(GUEST, 5, 255), -17), (card(GUEST, 5, 300), 1))

    def test_one_that_shuts_locks_older_guests_out(self):
        self.check([begin()], (card(GUEST, 5, 7), 1), (card(SHUTTING, 5, 8), 3), (card(GUEST, 5, 7), -17),
                   (card(SHUTTING, 5, 7), -17), (card(GUEST, 5, 8), 1), (card(SHUTTING, 5, 8), 3))

    def test_older_staff_behind_newer_staff(self):
        self.check([begin()], (card(STAFF, 4, 7), 2), (card(STAFF, 255, 9), 2), (card(STAFF, 4, 8), -17),
                   (card(STAFF, 4, 9), 2))

    def test_an_emergency_by_an_older_round(self):
        self.check([begin()], (card(STAFF, 4, 9), 2), (card(EMERGENCY, 255, 8), -17), (card(EMERGENCY, 255, 9), 4),
                   (card(EMERGENCY, 255, 10), 4), (card(STAFF, 4, 9), -17), (card(EMERGENCY, 255, 9), -17),
                   (card(STAFF, 4, 10), 2))

    def test_number_and_round_are_learned_apart(self):
        self.check([begin()], (card(GUEST, 5, 50), 1), (card(STAFF, 4, 3), 2), (card(EMERGENCY, 255, 3), 4),
                   (card(GUEST, 5, 49), -17), (card(STAFF, 4, 60), 2), (card(GUEST, 5, 50), 1),
                   (card(EMERGENCY, 255, 70), 4), (card(GUEST, 5, 50), 1), (card(SHUTTING, 5, 80), 3),
                   (card(STAFF, 4, 70), 2), (card(STAFF, 4, 69), -17))

    def test_another_rooms_newer_card(self):
        self.check([begin()], (card(GUEST, 5, 7), 1), (card(GUEST, 6, 8), -13), (card(SHUTTING, 4, 9), -13),
                   (card(GUEST, 5, 7), 1))

    def test_staff_of_several_zones_and_of_another_zone(self):
        self.check([begin(zone=2)], (card(STAFF, 4 + 8 + 128, 1), 2), (card(STAFF, 255, 1), 2),
                   (card(STAFF, 8, 2), -13), (card(STAFF, 2, 2), -13), (card(STAFF, 251, 2), -13),
                   (card(STAFF, 4, 1), 2))

    def test_who_opened_opens_again_till_the_day_is_over(self):
        shown = card(GUEST, 5, 7, 11)
        self.assertEqual(replies(begin(), show(shown), day(10), show(shown), day(11), show(shown), show(shown), day(12),
                                 would(shown), show(shown)), [0, 1, 0, 1, 0, 1, 1, 0, -34, -34])


class WouldTest(unittest.TestCase):
    def test_nothing_is_changed_by_it(self):
        self.assertEqual(replies(begin(), day(10), show(card(GUEST, 5, 3, 10)), show(card(STAFF, 4, 4, 10)),
                                 would(card(GUEST, 5, 90, 99)), show(card(GUEST, 5, 3, 10)),
                                 would(card(SHUTTING, 5, 90, 99)), show(card(GUEST, 5, 3, 10)),
                                 would(card(STAFF, 4, 90, 99)), show(card(STAFF, 4, 4, 10)),
                                 would(card(EMERGENCY, 255, 90, 99)), show(card(STAFF, 4, 4, 10))),
                         [0, 0, 1, 2, 1, 1, 3, 1, 2, 2, 4, 2])

    def test_refusals(self):
        self.assertEqual(replies(begin(), day(10), show(card(GUEST, 5, 3, 10)), show(card(STAFF, 4, 4, 10)),
                                 would([]), would(card(GUEST, 5, 3, 10, key=OTHER_KEY)), would(card(GUEST, 6, 3, 10)),
                                 would(card(GUEST, 5, 3, 9)), would(card(GUEST, 5, 2, 10)),
                                 would(card(STAFF, 8, 4, 10)), would(card(EMERGENCY, 255, 3, 10))),
                         [0, 0, 1, 2, -71, -71, -13, -34, -17, -13, -17])
