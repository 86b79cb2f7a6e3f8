"""make (point 5): m, then the m shares, one behind another."""

import unittest

import samples
import textbook
from sealedrowsdesk.store import make

CHOICES = (
    (1, 0), (1, 1), (1, 2), (1, 31), (2, 0), (2, 1), (2, 3), (3, 2), (4, 4), (5, 3), (7, 9), (8, 4), (8, 24), (15, 1),
    (16, 16), (17, 15), (31, 0), (31, 1), (32, 0),
)
WRONG = (
    (0, 0), (0, 1), (0, 31), (0, 32), (0, 33), (1, 32), (2, 31), (16, 17), (17, 16), (31, 2), (32, 1), (33, 0),
    (256, 0), (257, 1), (1, 256), (2 ** 32 + 1, 1), (1, 2 ** 32), (2 ** 63, 2 ** 63), (samples.GREATEST, 0),
    (0, samples.GREATEST), (1, samples.GREATEST), (samples.GREATEST, 1), (samples.GREATEST, 2),
    (2, samples.GREATEST), (samples.GREATEST, samples.GREATEST),
)


class MakeTest(unittest.TestCase):
    def test_worked_out_by_hand(self):
        # 1 is its own inverse, 2's is 8d, 3's is f6.
        self.assertEqual(make(1, 1, 3, [7, 0, 255]), [1, 1, 3, 7, 0, 255])
        self.assertEqual(make(1, 2, 1, [1]), [1, 2, 2, 1, 0x8d])
        self.assertEqual(make(1, 3, 2, [1, 0]), [1, 3, 6, 1, 0, 0x8d, 0, 0xf6, 0])
        self.assertEqual(make(2, 1, 1, [1, 0]), [1, 1, 1, 0x8d])
        self.assertEqual(make(2, 1, 1, [0, 1]), [1, 1, 1, 0xf6])
        self.assertEqual(make(2, 1, 1, [1, 1]), [1, 1, 1, 0x8d ^ 0xf6])
        self.assertEqual(make(2, 2, 1, [1, 1]), [1, 2, 2, 0x8d ^ 0xf6, 0xf6 ^ 0x8d])
        self.assertEqual(make(2, 1, 2, [2, 0, 0, 3]), [1, 1, 2, 1, 1])

    def test_as_a_slow_way_tells_them(self):
        for k, m in CHOICES:
            for size in (0, 1, 2, 5, 64) if k * m < 100 else (0, 1, 3):
                data = samples.spread(k * size, k + 40 * m)
                wanted = [1, m, m * size] + textbook.more_shares(k, m, size, data)
                self.assertEqual(make(k, m, size, data), wanted)

    def test_the_most_that_may_be_handed_in(self):
        data = samples.spread(16 * 64, 1)
        self.assertEqual(make(16, 16, 64, data), [1, 16, 1024] + textbook.more_shares(16, 16, 64, data))
        self.assertEqual(make(32, 0, 64, samples.spread(2048, 2)), [1, 0, 0])
        data = samples.spread(64, 3)
        self.assertEqual(make(1, 31, 64, data), [1, 31, 31 * 64] + textbook.more_shares(1, 31, 64, data))

    def test_no_share_more(self):
        for k in (1, 2, 8, 31, 32):
            for size in (0, 1, 64):
                self.assertEqual(make(k, 0, size, samples.spread(k * size, k)), [1, 0, 0])

    def test_no_bytes(self):
        for k, m in CHOICES:
            self.assertEqual(make(k, m, 0, []), [1, m, 0])

    def test_each_byte_is_by_itself(self):
        for k, m in ((3, 2), (8, 4)):
            data = samples.spread(k * 6, 9)
            whole = make(k, m, 6, data)[3:]
            for at in range(6):
                self.assertEqual(make(k, m, 1, data[at::6])[3:], whole[at::6])

    def test_plain_and_full_bytes(self):
        for k, m in CHOICES:
            for byte in (0, 1, 2, 128, 255):
                data = [byte] * k
                self.assertEqual(make(k, m, 1, data), [1, m, m] + textbook.more_shares(k, m, 1, data))

    def test_out_of_range_is_refused(self):
        for k, m in WRONG:
            for size in (0, 1, 64):
                self.assertEqual(make(k, m, size, []), [1, -2])


if __name__ == "__main__":
    unittest.main()
