import unittest

from learningdoor.desk import answers
from tests.helper import EMERGENCY, GUEST, KEY, SHUTTING, STAFF, begin, card, day, line, replies, show, would

MIXED = line(day(1), begin(64), begin(), would(card(GUEST, 5, 7, 9)), show(card(GUEST, 5, 7, 9)), day(9),
             show(card(GUEST, 5, 6, 9)), day(8), show(card(STAFF, 6, 1, 9)), would([]), show([0] * 100),
             show(card(SHUTTING, 5, 8, 9)), would(card(GUEST, 5, 7, 9)), show(card(EMERGENCY, 255, 1, 8)),
             begin(1, 1, [1] * 100), show(card(EMERGENCY, 255, 1, 9)), begin(6), show(card(GUEST, 6)))

MIXED_ANSWERS = [-61, -22, 0, 1, 1, 0, -17, -22, 2, -71, -71, 3, -17, -34, -22, 4, 0, 1]


class InterfaceTest(unittest.TestCase):
    def test_each_answer_has_its_count_ahead(self):
        self.assertEqual(answers([1, 0]), [1, -61])
        self.assertEqual(answers([0, 5, 2, 16] + KEY), [1, 0])
        self.assertEqual(answers([0, 5, 2, 0]), [1, -22])
        self.assertEqual(answers([2, 0]), [1, -61])
        self.assertEqual(answers([3, 2, 0, 0]), [1, -61])
        self.assertEqual(answers([0, 5, 2, 16] + KEY + [1, 3] + [2, 1, 1] + [3, 0] + [1, 2]),
                         [1, 0, 1, 0, 1, -71, 1, -71, 1, -22])

    def test_all_four_calls_in_one_list(self):
        self.assertEqual(answers(MIXED), [number for answer in MIXED_ANSWERS for number in (1, answer)])

    def test_it_gives_plain_whole_numbers_in_a_list(self):
        given = answers(MIXED)
        self.assertIs(type(given), list)
        self.assertEqual({type(number) for number in given}, {int})

    def test_what_is_handed_in_stands_as_it_was(self):
        calls = list(MIXED)
        answers(calls)
        self.assertEqual(calls, MIXED)

    def test_a_second_time_answers_the_same(self):
        first = answers(MIXED)
        self.assertEqual(answers(MIXED), first)
        self.assertEqual(answers(list(MIXED)), first)

    def test_what_is_given_back_is_the_callers(self):
        first = answers(MIXED)
        kept = list(first)
        first.clear()
        self.assertEqual(answers(MIXED), kept)

    def test_no_door_is_left_from_another_list(self):
        self.assertEqual(replies(begin(), show(card(GUEST, 5, 9))), [0, 1])
        self.assertEqual(replies(show(card(GUEST, 5, 9)), day(1)), [-61, -61])
        self.assertEqual(replies(begin(), show(card(GUEST, 5, 8))), [0, 1])

    def test_rows_of_a_hundred_numbers_are_passed_over(self):
        full = card(GUEST, 5) + [2] * 84
        self.assertEqual(replies(begin(key=KEY + [0] * 84), begin(), show(full), would(full), show(full[:16])),
                         [-22, 0, -71, -71, 1])

    def test_five_thousand_calls(self):
        self.assertEqual(replies(begin(), *[day(d) for d in range(4999)]), [0] * 5000)
        self.assertEqual(replies(*[day(d) for d in range(5000)]), [-61] * 5000)
        self.assertEqual(replies(begin(), *[show([])] * 2500, *[would([7])] * 2499), [0] + [-71] * 4999)

    def test_nearly_thirty_one_thousand_numbers(self):
        shown = [show(card(GUEST, 5, number)) for number in range(1721)]
        self.assertEqual(len(line(begin(), *shown)), 30998)
        self.assertEqual(replies(begin(), *shown), [0] + [1] * 1721)
        back = list(reversed(shown))
        self.assertEqual(replies(begin(), *back), [0, 1] + [-17] * 1720)

    def test_begins_alone(self):
        begins = [begin(number % 64, number % 8) for number in range(1550)]
        self.assertEqual(len(line(*begins)), 31000)
        self.assertEqual(replies(*begins), [0] * 1550)
