import unittest

from tests.helper import EMERGENCY, GUEST, SHUTTING, STAFF, begin, card, day, replies, show, would


class DayTest(unittest.TestCase):
    def test_a_later_day_and_the_same_day(self):
        self.assertEqual(replies(begin(), day(0), day(1), day(1), day(40), day(40), day(300)), [0] * 7)

    def test_a_day_before_the_doors(self):
        self.assertEqual(replies(begin(), day(40), day(39), day(0), day(40)), [0, 0, -22, -22, 0])

    def test_the_largest_day(self):
        self.assertEqual(replies(begin(), day(65536), day(4294967295), day(65535), day(65535), day(65534), day(65536)),
                         [0, -22, -22, 0, 0, -22, -22])

    def test_the_day_is_kept(self):
        self.assertEqual(replies(begin(), would(card(GUEST, 5, last=0)), day(300), would(card(GUEST, 5, last=299)),
                                 would(card(GUEST, 5, last=300)), day(65535), would(card(GUEST, 5, last=65534)),
                                 would(card(GUEST, 5, last=65535))),
                         [0, 1, 0, -34, 1, 0, -34, 1])

    def test_a_refused_day_changes_nothing(self):
        for wrong in (9, 0, 65536, 4294967295):
            with self.subTest(wrong=wrong):
                self.assertEqual(replies(begin(), day(10), show(card(GUEST, 5, 3, 10)), show(card(STAFF, 4, 4, 10)),
                                         day(wrong),
                                         would(card(GUEST, 5, 3, 9)), would(card(GUEST, 5, 3, 10)),
                                         would(card(GUEST, 5, 2, 10)), would(card(STAFF, 4, 3, 10)), day(10), day(11)),
                                 [0, 0, 1, 2, -22, -34, 1, -17, -17, 0, 0])

    def test_a_new_day_forgets_nothing(self):
        self.assertEqual(replies(begin(), show(card(SHUTTING, 5, 3, 99)), show(card(EMERGENCY, 255, 4, 99)), day(99),
                                 show(card(GUEST, 5, 2, 99)), show(card(STAFF, 4, 3, 99)),
                                 show(card(GUEST, 5, 3, 99)), show(card(STAFF, 4, 4, 99))),
                         [0, 3, 4, 0, -17, -17, 1, 2])
