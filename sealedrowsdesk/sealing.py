"""Sealing with a tag: the counter mode of SP 800-38D (GCM), with a nonce of 12 bytes and a tag of 16.

For the tag a block is one whole number, its first byte the highest: the standard counts a block's bits from there.
"""

from sealedrowsdesk.cipher import encipher, expand_key
from sealedrowsdesk.words import bytes_of, number_of

TAG_LENGTH = 16

# x^128 is x^7 + x^2 + x + 1 in the tag's field, whose lowest power is the highest bit.
OVERFLOW = 0xe1000000000000000000000000000000


def multiply(block, factor):
    """The product of two blocks in the tag's field."""
    product = 0
    for place in range(127, -1, -1):
        if (block >> place) & 1:
            product = product ^ factor
        factor = (factor >> 1) ^ OVERFLOW if factor & 1 else factor >> 1
    return product


class Sealing:
    """A sealing under way, or an opening: first goes what goes with the text, then the text, both in pieces."""

    def __init__(self, key, nonce, opening):
        self.round_keys = expand_key(key)
        self.factor = number_of(encipher([0] * 16, self.round_keys))
        self.nonce = list(nonce)
        self.opening = opening
        self.stream = []
        self.beside_length = 0
        self.text_length = 0
        self.text_begun = False
        self.tagged = 0
        self.waiting = []

    def enciphered_count(self, count):
        """The block that the nonce and a count make, enciphered."""
        return encipher(self.nonce + bytes_of(count, 4), self.round_keys)

    def hold(self, data):
        """The bytes go into the tag; those that fill no block wait for more."""
        waiting = self.waiting + data
        whole = len(waiting) - len(waiting) % 16
        for at in range(0, whole, 16):
            self.tagged = multiply(self.tagged ^ number_of(waiting[at:at + 16]), self.factor)
        self.waiting = waiting[whole:]

    def fill_block(self):
        """What waits goes into the tag, with 0s up to a whole block."""
        self.hold([0] * (-len(self.waiting) % 16))

    def take_beside(self, data):
        """What goes with the text goes on by these bytes; no text may have come yet."""
        self.beside_length = self.beside_length + len(data)
        self.hold(data)

    def run_stream(self, data):
        """The bytes with the stream of enciphered counts added."""
        run = []
        for byte in data:
            place = self.text_length % 16
            if place == 0:
                # The count 1 is the tag's own, so the text's first is 2.
                self.stream = self.enciphered_count(self.text_length // 16 + 2)
            run.append(byte ^ self.stream[place])
            self.text_length = self.text_length + 1
        return run

    def take_text(self, data):
        """The text goes on (what's sealed does, in an opening): what comes of these bytes."""
        if not self.text_begun:
            self.text_begun = True
            self.fill_block()
        run = self.run_stream(data)
        self.hold(data if self.opening else run)
        return run

    def tag(self):
        """The tag of all that went through; nothing may come behind it."""
        self.fill_block()
        self.hold(bytes_of(8 * self.beside_length, 8) + bytes_of(8 * self.text_length, 8))
        return bytes_of(self.tagged ^ number_of(self.enciphered_count(1)), TAG_LENGTH)


def seal_text(key, nonce, beside, text):
    """The text sealed, its tag behind it."""
    sealing = Sealing(key, nonce, False)
    sealing.take_beside(beside)
    sealed = sealing.take_text(text)
    return sealed + sealing.tag()


def open_text(key, nonce, beside, data):
    """The text that was sealed, from what's sealed and its tag behind it; None if the tag isn't right."""
    cut = len(data) - TAG_LENGTH
    opening = Sealing(key, nonce, True)
    opening.take_beside(beside)
    text = opening.take_text(data[:cut])
    if opening.tag() != data[cut:]:
        return None
    return text
