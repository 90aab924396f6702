import unittest

from learningdoor.octets import number_from, octets_from
from learningdoor.tag import tag_of, words_of
from tests import helper

# Known tags by the key 00 01 .. 0f, of the messages 00 01 .. with so many bytes.
KNOWN = {
    0: "310e0edd47db6f72",
    1: "fd67dc93c539f874",
    2: "5a4fa9d909806c0d",
    3: "2d7efbd796666785",
    4: "b7877127e09427cf",
    5: "8da699cd64557618",
    6: "cee3fe586e46c9cb",
    7: "37d1018bf50002ab",
    8: "6224939a79f5f593",
    9: "b0e4a90bdf82009e",
    15: "e545be4961ca29a1",
    16: "db9bc2577fcc2a3f",
    63: "724506eb4c328a95",
    255: "1ab24dc7fe69c1a9",
    256: "d7bfa7d226059d99",
    257: "4897b2558d7b818a",
    300: "397811b60d710b4b",
}


def counted(length):
    return [at % 256 for at in range(length)]


class TagTest(unittest.TestCase):
    def test_known_tags(self):
        for length, told in KNOWN.items():
            with self.subTest(length=length):
                self.assertEqual(tag_of(counted(length), helper.KEY), list(bytes.fromhex(told)))

    def test_the_helper_signs_by_the_known_tags_too(self):
        for length, told in KNOWN.items():
            with self.subTest(length=length):
                self.assertEqual(helper.tag(counted(length), helper.KEY), list(bytes.fromhex(told)))

    def test_a_key_of_large_numbers(self):
        key = list(bytes.fromhex("fedcba9876543210ffffffffffffffff"))
        self.assertEqual(tag_of([1, 5, 1, 0, 10, 0, 7, 0], key), list(bytes.fromhex("8ab4845c48551095")))

    def test_each_byte_of_the_key_counts(self):
        plain = tag_of(counted(8), helper.KEY)
        for at in range(16):
            key = list(helper.KEY)
            key[at] ^= 128
            self.assertNotEqual(tag_of(counted(8), key), plain)

    def test_message_and_key_stand_as_they_were(self):
        message, key = counted(21), list(helper.KEY)
        tag_of(message, key)
        self.assertEqual((message, key), (counted(21), helper.KEY))

    def test_the_words_of_a_message(self):
        self.assertEqual(words_of([]), [0])
        self.assertEqual(words_of([3]), [3 + (1 << 56)])
        self.assertEqual(words_of([1, 1, 0, 0, 0, 0, 0, 0]), [257, 8 << 56])
        self.assertEqual(words_of([0] * 8 + [2, 1]), [0, 258 + (10 << 56)])
        self.assertEqual(words_of([0] * 256), [0] * 33)

    def test_numbers_and_bytes(self):
        self.assertEqual(number_from([1, 2]), 513)
        self.assertEqual(number_from([]), 0)
        self.assertEqual(octets_from(513, 2), [1, 2])
        self.assertEqual(octets_from(1, 8), [1, 0, 0, 0, 0, 0, 0, 0])
