"""seal (point 2): the text's length and 16, then the text sealed and its tag."""

import unittest

import samples
import textbook
from sealedrowsdesk.store import seal

SIZES = (0, 1, 15, 16, 17, 599, 600)


def answered(data):
    return [1, len(data), len(data)] + data


class SealTest(unittest.TestCase):
    def test_published_examples(self):
        for length, key, nonce, beside, text, sealed, tag in samples.gcm_examples():
            wanted = [1, len(text) + 16, len(text) + 16] + sealed + tag
            self.assertEqual(seal(length, key, nonce, beside, text), wanted)

    def test_whole_answers_written_out(self):
        tag = [88, 226, 252, 206, 250, 126, 48, 97, 54, 127, 29, 87, 164, 231, 69, 90]
        self.assertEqual(seal(16, [0] * 16, [0] * 12, [], []), [1, 16, 16] + tag)
        block = [3, 136, 218, 206, 96, 182, 163, 146, 243, 40, 194, 185, 113, 178, 254, 120]
        tag = [171, 110, 71, 212, 44, 236, 19, 189, 245, 58, 103, 178, 18, 87, 189, 223]
        self.assertEqual(seal(16, [0] * 16, [0] * 12, [], [0] * 16), [1, 32, 32] + block + tag)

    def test_sizes_of_the_text_and_of_what_goes_with_it(self):
        for length in samples.LENGTHS:
            key = samples.spread(length, 3)
            nonce = samples.spread(12, length)
            for beside_size in SIZES:
                for size in SIZES:
                    beside = samples.spread(beside_size, size + 1)
                    text = samples.spread(size, beside_size + 2)
                    wanted = answered(textbook.sealed(key, nonce, beside, text))
                    self.assertEqual(wanted[:3], [1, size + 16, size + 16])
                    self.assertEqual(seal(length, key, nonce, beside, text), wanted)

    def test_plain_and_full_bytes(self):
        for length in samples.LENGTHS:
            for byte in (0, 1, 128, 255):
                values = ([byte] * length, [byte] * 12, [byte] * 33, [byte] * 47)
                self.assertEqual(seal(length, *values), answered(textbook.sealed(*values)))

    def test_many_keys_and_nonces(self):
        for seed in range(30):
            length = samples.LENGTHS[seed % 3]
            values = tuple(samples.spread(size, seed + 50 * size) for size in (length, 12, seed, 3 * seed))
            self.assertEqual(seal(length, *values), answered(textbook.sealed(*values)))

    def test_text_and_what_goes_with_it_are_told_apart(self):
        key = samples.spread(16, 1)
        nonce = samples.spread(12, 2)
        tags = [seal(16, key, nonce, [0] * count, [])[-16:] for count in range(33)]
        self.assertEqual(len(set(map(tuple, tags))), 33)
        self.assertNotEqual(seal(16, key, nonce, [0] * 16, [])[-16:], seal(16, key, nonce, [], [0] * 16)[-16:])

    def test_other_lengths_are_refused(self):
        for length in samples.WRONG_LENGTHS:
            for beside in ([], [1], samples.spread(600, 1)):
                for text in ([], [1], samples.spread(600, 2)):
                    self.assertEqual(seal(length, [], samples.spread(12, 3), beside, text), [1, -2])


if __name__ == "__main__":
    unittest.main()
