"""blocks (point 1): how many blocks, then each by the cipher or its way back."""

import unittest

import samples
import textbook
from sealedrowsdesk.store import blocks

BACKS = (1, 2, 255, 256, 2 ** 32, 2 ** 63, samples.GREATEST)


def answered(data):
    return [1, len(data) // 16, len(data)] + data


class BlocksTest(unittest.TestCase):
    def test_examples_of_fips_197(self):
        for length in samples.LENGTHS:
            key = list(range(length))
            sealed = samples.ENCIPHERED[length]
            self.assertEqual(blocks(length, 0, key, samples.PLAIN), [1, 1, 16] + sealed)
            for back in BACKS:
                self.assertEqual(blocks(length, back, key, sealed), [1, 1, 16] + samples.PLAIN)

    def test_example_of_fips_197_step_by_step(self):
        key = samples.hexed("2b7e151628aed2a6abf7158809cf4f3c")
        plain = samples.hexed("3243f6a8885a308d313198a2e0370734")
        sealed = samples.hexed("3925841d02dc09fbdc118597196a0b32")
        self.assertEqual(blocks(16, 0, key, plain), answered(sealed))
        self.assertEqual(blocks(16, 1, key, sealed), answered(plain))

    def test_four_blocks_of_sp_800_38a(self):
        for length in samples.LENGTHS:
            key = samples.hexed(samples.EXPANSIONS[length][0])
            sealed = samples.FOUR_ENCIPHERED[length]
            self.assertEqual(blocks(length, 0, key, samples.FOUR_PLAIN), [1, 4, 64] + sealed)
            self.assertEqual(blocks(length, 1, key, sealed), [1, 4, 64] + samples.FOUR_PLAIN)

    def test_no_block(self):
        for length in samples.LENGTHS:
            for back in (0,) + BACKS:
                self.assertEqual(blocks(length, back, list(range(length)), []), [1, 0, 0])

    def test_from_one_block_to_64_there_and_back(self):
        for length in samples.LENGTHS:
            for count in (1, 2, 3, 7, 16, 63, 64):
                key = samples.spread(length, count)
                plain = samples.spread(16 * count, count + 100)
                there = blocks(length, 0, key, plain)
                self.assertEqual(there[:3], [1, count, 16 * count])
                self.assertEqual(len(there), 3 + 16 * count)
                for back in (1, samples.GREATEST):
                    self.assertEqual(blocks(length, back, key, there[3:]), answered(plain))

    def test_back_and_then_there_is_as_it_was(self):
        for length in samples.LENGTHS:
            key = samples.spread(length, 5)
            data = samples.spread(16 * 20, 6)
            back = blocks(length, samples.GREATEST, key, data)
            self.assertNotEqual(back, answered(data))
            self.assertEqual(blocks(length, 0, key, back[3:]), answered(data))

    def test_64_blocks_are_each_as_by_the_cipher(self):
        for length in samples.LENGTHS:
            key = samples.spread(length, 1)
            data = samples.spread(1024, 2)
            each = [data[at:at + 16] for at in range(0, 1024, 16)]
            there = sum([textbook.enciphered(key, block) for block in each], [])
            back = sum([textbook.deciphered(key, block) for block in each], [])
            self.assertEqual(blocks(length, 0, key, data), [1, 64, 1024] + there)
            self.assertEqual(blocks(length, 1, key, data), [1, 64, 1024] + back)

    def test_equal_blocks_and_plain_keys(self):
        for length in samples.LENGTHS:
            for key in ([0] * length, [255] * length, [0] * (length - 1) + [1], [128] + [0] * (length - 1)):
                for block in ([0] * 16, [255] * 16, list(range(16)), [0] * 15 + [1]):
                    there = textbook.enciphered(key, block)
                    back = textbook.deciphered(key, block)
                    self.assertEqual(blocks(length, 0, key, block * 3), [1, 3, 48] + there * 3)
                    self.assertEqual(blocks(length, 1, key, block * 3), [1, 3, 48] + back * 3)

    def test_other_lengths_are_refused(self):
        for length in samples.WRONG_LENGTHS:
            for back in (0, 1, samples.GREATEST):
                for data in ([], samples.PLAIN, samples.FOUR_PLAIN, [0] * 1024):
                    self.assertEqual(blocks(length, back, [], data), [1, -2])


if __name__ == "__main__":
    unittest.main()
