"""The tag of a message by a key: SipHash-2-4."""

from learningdoor.octets import number_from, octets_from

MASK = 18446744073709551615


def turned(number, bits):
    return ((number << bits) | (number >> (64 - bits))) & MASK


class Mixer:
    """The four numbers that a message's words are worked into."""

    def __init__(self, key):
        first = number_from(key[:8])
        other = number_from(key[8:])
        self.a = 8317987319222330741 ^ first
        self.b = 7237128888997146477 ^ other
        self.c = 7816392313619706465 ^ first
        self.d = 8387220255154660723 ^ other

    def mix_once(self):
        self.a = (self.a + self.b) & MASK
        self.b = turned(self.b, 13) ^ self.a
        self.a = turned(self.a, 32)
        self.c = (self.c + self.d) & MASK
        self.d = turned(self.d, 16) ^ self.c
        self.a = (self.a + self.d) & MASK
        self.d = turned(self.d, 21) ^ self.a
        self.c = (self.c + self.b) & MASK
        self.b = turned(self.b, 17) ^ self.c
        self.c = turned(self.c, 32)

    def mix(self, times):
        for turn in range(times):
            self.mix_once()

    def take_in(self, word):
        self.d = self.d ^ word
        self.mix(2)
        self.a = self.a ^ word

    def finish(self):
        self.c = self.c ^ 255
        self.mix(4)
        return self.a ^ self.b ^ self.c ^ self.d


def words_of(message):
    words = []
    at = 0
    while len(message) - at >= 8:
        words.append(number_from(message[at:at + 8]))
        at = at + 8
    # The last word's eighth byte tells the length, so at most seven bytes are left for it.
    length = len(message) % 256
    words.append(number_from(message[at:]) | (length << 56))
    return words


def tag_of(message, key):
    mixer = Mixer(key)
    for word in words_of(message):
        mixer.take_in(word)
    return octets_from(mixer.finish(), 8)
