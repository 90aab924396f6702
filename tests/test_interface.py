import unittest

from learningdoor.desk import answers
from tests.helper import (EMERGENCY, GUEST, KEY, OTHER_KEY, SHUTTING, STAFF, answered, begin, bolt, book, card, day,
                          line, replies, show, state, would)

MIXED = line(state(), day(1), book(0), begin(64), bolt(1), begin(), state(), book(0),
             would(card(GUEST, 5, 7, 9, 3)), show(card(GUEST, 5, 7, 9, 3)), book(0), day(9), show(card(GUEST, 5, 6, 9)),
             day(8), bolt(2), bolt(1), show(card(GUEST, 5, 7, 9)), show(card(STAFF, 6, 1, 9)), would([]),
             show([0] * 100), show(card(SHUTTING, 5, 8, 9, 4)), would(card(GUEST, 5, 7, 9)),
             show(card(EMERGENCY, 255, 1, 8)), state(), begin(1, 1, [1] * 100), show(card(EMERGENCY, 255, 1, 9, 5)),
             state(), book(0), book(1), book(2), book(3), begin(6), show(card(GUEST, 6)), book(4294967295), state())

MIXED_ANSWERS = [1, -61, 1, -61, 1, -61, 1, -22, 1, -61, 1, 0, 7, 0, 5, 2, 0, 0, 0, 0, 1, -2,
                 1, 1, 1, 1, 4, 1, 7, 3, 0, 1, 0, 1, -17,
                 1, -22, 1, -22, 1, 0, 1, -15, 1, -15, 1, -71,
                 1, -71, 1, 3, 1, -17,
                 1, -34, 7, 1, 5, 2, 9, 8, 0, 2, 1, -22, 1, 4,
                 7, 0, 5, 2, 9, 8, 1, 3, 4, 4, 1, 5, 9, 4, 3, 8, 4, 9, 4, 1, 7, 3, 0, 1, -2,
                 1, 0, 1, 1, 1, -2, 7, 0, 6, 2, 0, 0, 0, 1]


class InterfaceTest(unittest.TestCase):
    def test_each_answer_has_its_count_ahead(self):
        self.assertEqual(answers([1, 0]), [1, -61])
        self.assertEqual(answers([0, 5, 2, 16] + KEY), [1, 0])
        self.assertEqual(answers([0, 5, 2, 0]), [1, -22])
        self.assertEqual(answers([2, 0]), [1, -61])
        self.assertEqual(answers([3, 2, 0, 0]), [1, -61])
        self.assertEqual(answers([0, 5, 2, 16] + KEY + [1, 3] + [2, 1, 1] + [3, 0] + [1, 2]),
                         [1, 0, 1, 0, 1, -71, 1, -71, 1, -22])

    def test_the_counts_of_bolt_book_and_state(self):
        self.assertEqual(answers([4, 0]), [1, -61])
        self.assertEqual(answers([5, 0]), [1, -61])
        self.assertEqual(answers([6]), [1, -61])
        self.assertEqual(answers([0, 5, 2, 16] + KEY + [4, 1, 4, 2, 5, 0, 6]),
                         [1, 0, 1, 0, 1, -22, 1, -2, 7, 1, 5, 2, 0, 0, 0, 0])
        self.assertEqual(answers([0, 5, 2, 16] + KEY + [2, 16] + card(GUEST, 5, 3, 9, 8) + [5, 0, 5, 1, 6]),
                         [1, 0, 1, 1, 4, 1, 3, 8, 0, 1, -2, 7, 0, 5, 2, 0, 3, 0, 1])

    def test_all_seven_calls_in_one_list(self):
        self.assertEqual(answers(MIXED), MIXED_ANSWERS)

    def test_it_gives_plain_whole_numbers_in_a_list(self):
        given = answers(MIXED)
        self.assertIs(type(given), list)
        self.assertEqual({type(number) for number in given}, {int})

    def test_what_is_handed_in_stands_as_it_was(self):
        calls = list(MIXED)
        answers(calls)
        self.assertEqual(calls, MIXED)

    def test_a_second_time_answers_the_same(self):
        first = answers(MIXED)
        self.assertEqual(answers(MIXED), first)
        self.assertEqual(answers(list(MIXED)), first)

    def test_what_is_given_back_is_the_callers(self):
        first = answers(MIXED)
        kept = list(first)
        first.clear()
        self.assertEqual(answers(MIXED), kept)

    def test_the_key_handed_in_is_not_kept_to_the_next_list(self):
        calls = line(begin(), show(card(GUEST, 5)), state())
        self.assertEqual(answers(calls), [1, 0, 1, 1, 7, 0, 5, 2, 0, 0, 0, 1])
        calls[4:20] = OTHER_KEY
        self.assertEqual(answers(calls), [1, 0, 1, -71, 7, 0, 5, 2, 0, 0, 0, 0])

    def test_no_door_is_left_from_another_list(self):
        self.assertEqual(replies(begin(), show(card(GUEST, 5, 9))), [0, 1])
        self.assertEqual(replies(show(card(GUEST, 5, 9)), day(1), bolt(1), book(0), state()), [-61] * 5)
        self.assertEqual(replies(begin(), show(card(GUEST, 5, 8))), [0, 1])

    def test_rows_of_a_hundred_numbers_are_passed_over(self):
        full = card(GUEST, 5) + [2] * 84
        self.assertEqual(replies(begin(key=KEY + [0] * 84), begin(), show(full), would(full), show(full[:16])),
                         [-22, 0, -71, -71, 1])

    def test_five_thousand_calls(self):
        self.assertEqual(replies(begin(), *[day(d) for d in range(4999)]), [0] * 5000)
        self.assertEqual(replies(*[day(d) for d in range(5000)]), [-61] * 5000)
        self.assertEqual(replies(begin(), *[show([])] * 2500, *[would([7])] * 2499), [0] + [-71] * 4999)

    def test_five_thousand_calls_of_bolt_book_and_state(self):
        self.assertEqual(answers([6] * 5000), [1, -61] * 5000)
        self.assertEqual(answers([5, 0] * 5000), [1, -61] * 5000)
        self.assertEqual(answers([4, 1] * 5000), [1, -61] * 5000)
        self.assertEqual(answers(begin() + [6] * 4999), [1, 0] + [7, 0, 5, 2, 0, 0, 0, 0] * 4999)
        self.assertEqual(answers(begin() + show(card(GUEST, 5, 7, 9, 3)) + [5, 0] * 4998),
                         [1, 0, 1, 1] + [4, 1, 7, 3, 0] * 4998)
        self.assertEqual(answers(begin() + [4, 1, 6, 4, 0, 6] * 1249 + [5, 0, 4, 2, 6]),
                         [1, 0] + [1, 0, 7, 1, 5, 2, 0, 0, 0, 0, 1, 0, 7, 0, 5, 2, 0, 0, 0, 0] * 1249
                         + [1, -2, 1, -22, 7, 0, 5, 2, 0, 0, 0, 0])

    def test_five_thousand_calls_of_all_seven_kinds(self):
        once = [begin(), day(3), would(card(GUEST, 5, 7, 9, 3)), bolt(1), show(card(SHUTTING, 5, 7, 9, 3)), book(0),
                state(), bolt(2), book(1), bolt(0)] + [state()] * 190
        told = [[0], [0], [1], [0], [3], [3, 7, 3, 3], [1, 5, 2, 3, 7, 0, 1], [-22], [-2], [0]]
        told += [[0, 5, 2, 3, 7, 0, 1]] * 190
        self.assertEqual(len(once), 200)
        self.assertEqual(answered(*once * 25), told * 25)

    def test_nearly_thirty_one_thousand_numbers(self):
        shown = [show(card(GUEST, 5, number)) for number in range(1721)]
        self.assertEqual(len(line(begin(), *shown)), 30998)
        self.assertEqual(replies(begin(), *shown), [0] + [1] * 1721)
        back = list(reversed(shown))
        self.assertEqual(replies(begin(), *back), [0, 1] + [-17] * 1720)

    def test_nearly_thirty_one_thousand_numbers_with_book_and_state(self):
        asked = [call for number in range(1474) for call in (show(card(GUEST, 5, number, 0, 9)), book(0), state())]
        self.assertEqual(len(line(begin(), *asked)), 30974)
        due = [part for number in range(1474)
               for part in ([1], [1, number, 9, 0], [0, 5, 2, 0, number, 0, min(number + 1, 16)])]
        self.assertEqual(answered(begin(), *asked), [[0]] + due)

    def test_begins_alone(self):
        begins = [begin(number % 64, number % 8) for number in range(1550)]
        self.assertEqual(len(line(*begins)), 31000)
        self.assertEqual(replies(*begins), [0] * 1550)
