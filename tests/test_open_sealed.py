"""open_sealed (point 2): the text that was sealed; -2 without room for a tag, -5 if the tag isn't right."""

import unittest

import samples
import textbook
from sealedrowsdesk.store import open_sealed, seal

SIZES = (0, 1, 15, 16, 17, 599, 600)


def answered(text):
    return [1, len(text), len(text)] + text


def other(data, place, change):
    """The data with one byte changed."""
    return data[:place] + [data[place] ^ change] + data[place + 1:]


class OpenSealedTest(unittest.TestCase):
    def test_published_examples(self):
        for length, key, nonce, beside, text, sealed, tag in samples.gcm_examples():
            self.assertEqual(open_sealed(length, key, nonce, beside, sealed + tag), answered(text))

    def test_what_seal_gives_is_opened(self):
        for length in samples.LENGTHS:
            key = samples.spread(length, 4)
            nonce = samples.spread(12, length + 1)
            for beside_size in SIZES:
                for size in SIZES:
                    beside = samples.spread(beside_size, size + 3)
                    text = samples.spread(size, beside_size + 4)
                    data = seal(length, key, nonce, beside, text)[3:]
                    self.assertEqual(open_sealed(length, key, nonce, beside, data), answered(text))

    def test_as_much_as_may_be_handed_in(self):
        for length in samples.LENGTHS:
            values = (samples.spread(length, 5), samples.spread(12, 6), samples.spread(600, 7))
            text = samples.spread(584, 8)
            data = textbook.sealed(*values, text)
            self.assertEqual(len(data), 600)
            self.assertEqual(open_sealed(length, *values, data), [1, 584, 584] + text)

    def test_just_a_tag(self):
        for length in samples.LENGTHS:
            key = samples.spread(length, 9)
            nonce = samples.spread(12, 10)
            for beside in ([], samples.spread(5, 11), samples.spread(600, 12)):
                tag = textbook.sealed(key, nonce, beside, [])
                self.assertEqual(open_sealed(length, key, nonce, beside, tag), [1, 0, 0])
                self.assertEqual(open_sealed(length, key, nonce, beside, [0] * 16), [1, -5])

    def test_one_other_byte_is_refused(self):
        for length in samples.LENGTHS:
            parts = [samples.spread(size, size) for size in (length, 12, 21, 35)]
            parts[3] = textbook.sealed(*parts)
            self.assertEqual(open_sealed(length, *parts)[:2], [1, 35])
            for k in range(4):
                for place in range(len(parts[k])):
                    for change in (1, 128) if place % 5 else (1, 255, 16):
                        wrong = list(parts)
                        wrong[k] = other(parts[k], place, change)
                        self.assertEqual(open_sealed(length, *wrong), [1, -5])

    def test_one_other_byte_in_the_longest_is_refused(self):
        parts = [samples.spread(size, size) for size in (16, 12, 600, 584)]
        parts[3] = textbook.sealed(*parts)
        for place in (0, 1, 15, 16, 300, 567, 568, 583, 584, 591, 592, 599):
            for k in (2, 3):
                wrong = list(parts)
                wrong[k] = other(parts[k], place, 64)
                self.assertEqual(open_sealed(16, *wrong), [1, -5])

    def test_other_cuts_are_refused(self):
        key = samples.spread(24, 1)
        nonce = samples.spread(12, 2)
        beside = samples.spread(20, 3)
        data = textbook.sealed(key, nonce, beside, samples.spread(40, 4))
        for wrong in (data[:-1], data[1:], data + [0], [0] + data, data[:16], data[-16:], data[::-1]):
            self.assertEqual(open_sealed(24, key, nonce, beside, wrong), [1, -5])
        for wrong in (beside[:-1], beside[1:], beside + [0], [], beside[::-1]):
            self.assertEqual(open_sealed(24, key, nonce, wrong, data), [1, -5])

    def test_one_key_cut_to_another_length_is_refused(self):
        key = samples.spread(32, 1)
        nonce = samples.spread(12, 2)
        data = textbook.sealed(key, nonce, [], samples.spread(40, 4))
        for length in (16, 24):
            self.assertEqual(open_sealed(length, key[:length], nonce, [], data), [1, -5])

    def test_no_room_for_a_tag_is_refused(self):
        for length in samples.LENGTHS:
            key = samples.spread(length, 1)
            for size in range(16):
                for beside in ([], samples.spread(600, 1)):
                    answer = open_sealed(length, key, samples.spread(12, 2), beside, samples.spread(size, 3))
                    self.assertEqual(answer, [1, -2])

    def test_other_lengths_are_refused(self):
        for length in samples.WRONG_LENGTHS:
            for size in (0, 1, 15, 16, 17, 600):
                for beside in ([], samples.spread(600, 1)):
                    answer = open_sealed(length, [], samples.spread(12, 2), beside, samples.spread(size, 3))
                    self.assertEqual(answer, [1, -2])


if __name__ == "__main__":
    unittest.main()
