import unittest

from tests.helper import (EMERGENCY, GUEST, OTHER_KEY, SHUTTING, STAFF, answered, begin, bolt, book, book_behind, card,
                          day, show, state, would)


def shown(serial):
    return show(card(GUEST, 5, 0, 0, serial))


class AskedTest(unittest.TestCase):
    def check(self, entries, asked, due):
        """Behind so many entries, with the serial numbers 1, 2 and on, the k-th has the serial number due, or -2."""
        calls = [begin()] + [shown(serial) for serial in range(1, entries + 1)] + [book(asked)]
        self.assertEqual(answered(*calls)[-1], [-2] if due == -2 else [1, 0, due, 0])

    def test_an_empty_book(self):
        for k in (0, 1, 15, 16, 17, 4294967295):
            with self.subTest(k=k):
                self.check(0, k, -2)

    def test_the_last_entry_and_one_more(self):
        for entries in range(1, 17):
            with self.subTest(entries=entries):
                self.check(entries, 0, entries)
                self.check(entries, entries - 1, 1)
                self.check(entries, entries, -2)
                self.check(entries, entries + 1, -2)

    def test_15_16_and_beyond(self):
        self.check(15, 14, 1)
        self.check(15, 15, -2)
        self.check(16, 15, 1)
        self.check(16, 16, -2)
        self.check(17, 15, 2)
        self.check(17, 16, -2)
        self.check(17, 17, -2)
        for k in (17, 31, 32, 255, 256, 257, 65536, 2147483648, 4294967280, 4294967295):
            for entries in (0, 1, 16, 17):
                with self.subTest(k=k, entries=entries):
                    self.check(entries, k, -2)

    def test_the_last_first(self):
        for entries in (1, 2, 3, 7, 15, 16):
            with self.subTest(entries=entries):
                self.assertEqual(book_behind(begin(), *[shown(serial) for serial in range(entries)]),
                                 [[1, 0, serial, 0] for serial in reversed(range(entries))])

    def test_asking_changes_nothing(self):
        calls = [begin(), bolt(0), shown(1), shown(2), book(0), book(0), book(1), book(2), book(0), book(1), state()]
        self.assertEqual(answered(*calls)[4:], [[1, 0, 2, 0], [1, 0, 2, 0], [1, 0, 1, 0], [-2], [1, 0, 2, 0],
                                                [1, 0, 1, 0], [0, 5, 2, 0, 0, 0, 2]])


class WrittenTest(unittest.TestCase):
    def test_each_kind_with_its_number_serial_number_and_day(self):
        self.assertEqual(book_behind(begin(), show(card(GUEST, 5, 1, 50, 11)), day(7), show(card(STAFF, 6, 2, 51, 12)),
                                     show(card(SHUTTING, 5, 300, 52, 513)), day(8),
                                     show(card(EMERGENCY, 255, 4, 53, 14)), day(9)),
                         [[4, 4, 14, 8], [3, 300, 513, 7], [2, 2, 12, 7], [1, 1, 11, 0]])

    def test_the_largest_values(self):
        for kind, place in ((GUEST, 5), (STAFF, 4), (SHUTTING, 5), (EMERGENCY, 255)):
            with self.subTest(kind=kind):
                self.assertEqual(book_behind(begin(), day(65535), show(card(kind, place, 65534, 65535, 65533))),
                                 [[kind, 65534, 65533, 65535]])

    def test_the_same_card_again_is_written_again(self):
        for kind, place in ((GUEST, 5), (STAFF, 4), (SHUTTING, 5), (EMERGENCY, 255)):
            again = show(card(kind, place, 3, 9, 6))
            self.assertEqual(book_behind(begin(), again, again, day(2), again),
                             [[kind, 3, 6, 2], [kind, 3, 6, 0], [kind, 3, 6, 0]])

    def test_before_a_bolted_door(self):
        self.assertEqual(book_behind(begin(), bolt(1), show(card(GUEST, 5, 1, 9, 1)), show(card(STAFF, 4, 1, 9, 2)),
                                     show(card(SHUTTING, 5, 2, 9, 3)), show(card(EMERGENCY, 255, 2, 9, 4)),
                                     show(card(GUEST, 5, 2, 9, 5))), [[1, 2, 5, 0], [4, 2, 4, 0], [3, 2, 3, 0]])

    def test_what_is_refused_is_not_written(self):
        ready = [begin(), day(10), show(card(GUEST, 5, 20, 10, 1)), show(card(STAFF, 4, 30, 10, 2))]
        for wrong in ([], card(GUEST, 5, 20, 10, 3)[:15], card(GUEST, 5, 20, 10, 3, key=OTHER_KEY),
                      card(GUEST, 64, 20, 10, 3), card(GUEST, 6, 20, 10, 3), card(SHUTTING, 6, 20, 10, 3),
                      card(STAFF, 8, 30, 10, 3), card(GUEST, 5, 20, 9, 3), card(EMERGENCY, 255, 30, 9, 3),
                      card(GUEST, 5, 19, 10, 3), card(SHUTTING, 5, 19, 10, 3), card(STAFF, 4, 29, 10, 3),
                      card(EMERGENCY, 255, 29, 10, 3)):
            with self.subTest(wrong=wrong):
                self.assertEqual(book_behind(*ready, show(wrong)), [[2, 30, 2, 10], [1, 20, 1, 10]])

    def test_would_writes_nothing(self):
        asked = [would(card(kind, place, 7, 9, 3))
                 for kind, place in ((GUEST, 5), (STAFF, 4), (SHUTTING, 5), (EMERGENCY, 255))]
        self.assertEqual(book_behind(begin(), *asked), [])
        self.assertEqual(book_behind(begin(), shown(1), *asked), [[1, 0, 1, 0]])

    def test_other_calls_write_nothing(self):
        self.assertEqual(book_behind(begin(), shown(1), day(3), day(2), bolt(1), bolt(0), bolt(2), state(), begin(64)),
                         [[1, 0, 1, 0]])

    def test_a_later_day_leaves_what_stands_in_it(self):
        self.assertEqual(book_behind(begin(), shown(1), day(4), show(card(GUEST, 5, 0, 4, 2)), day(65535)),
                         [[1, 0, 2, 4], [1, 0, 1, 0]])


class KeptTest(unittest.TestCase):
    def test_the_last_sixteen(self):
        for entries in (16, 17, 18, 31, 32, 33, 200):
            with self.subTest(entries=entries):
                self.assertEqual(book_behind(begin(), *[shown(serial) for serial in range(entries)]),
                                 [[1, 0, serial, 0] for serial in range(entries - 1, entries - 17, -1)])

    def test_the_seventeenth_of_each_kind_puts_the_oldest_out(self):
        full = [begin()] + [shown(serial) for serial in range(16)]
        for kind, place in ((GUEST, 5), (STAFF, 4), (SHUTTING, 5), (EMERGENCY, 255)):
            with self.subTest(kind=kind):
                self.assertEqual(book_behind(*full, show(card(kind, place, 4, 9, 99))),
                                 [[kind, 4, 99, 0]] + [[1, 0, serial, 0] for serial in range(15, 0, -1)])

    def test_a_refused_seventeenth_leaves_the_oldest(self):
        full = [begin()] + [shown(serial) for serial in range(16)]
        stands = [[1, 0, serial, 0] for serial in range(15, -1, -1)]
        self.assertEqual(book_behind(*full, show(card(GUEST, 6, 4, 9)), show([]), would(card(GUEST, 5, 4, 9))), stands)
        self.assertEqual(book_behind(*full, bolt(1), shown(99)), stands)

    def test_a_new_begin_empties_it(self):
        for entries in (1, 16, 17):
            full = [begin()] + [shown(serial) for serial in range(entries)]
            self.assertEqual(book_behind(*full, begin()), [])
            self.assertEqual(book_behind(*full, begin(), shown(50)), [[1, 0, 50, 0]])

    def test_a_refused_begin_leaves_it(self):
        for wrong in (begin(room=64), begin(zone=8), begin(key=OTHER_KEY[:15])):
            self.assertEqual(book_behind(begin(), shown(1), shown(2), wrong), [[1, 0, 2, 0], [1, 0, 1, 0]])
