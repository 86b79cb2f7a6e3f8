"""mark (point 4): 32, then HMAC with SHA-256."""

import hashlib
import hmac
import unittest

import samples
from sealedrowsdesk.store import mark

# RFC 4231: key, data, mark (of the fifth its first 16 bytes alone are published).
EXAMPLES = (
    (b"\x0b" * 20, b"Hi There", "b0344c61d8db38535ca8afceaf0bf12b881dc200c9833da726e9376c2e32cff7"),
    (b"Jefe", b"what do ya want for nothing?", "5bdcc146bf60754e6a042426089575c75a003f089d2739839dec58b964ec3843"),
    (b"\xaa" * 20, b"\xdd" * 50, "773ea91e36800e46854db8ebd09181a72959098b3ef8c122d9635514ced565fe"),
    (bytes(range(1, 26)), b"\xcd" * 50, "82558a389a443c0ea4cc819899f2083a85f0faa3e578f8077a2e3ff46729665b"),
    (b"\x0c" * 20, b"Test With Truncation", "a3b6167473100ee06e0c796c2955552b"),
    (
        b"\xaa" * 131, b"Test Using Larger Than Block-Size Key - Hash Key First",
        "60e431591ee0b67f0d8a26aacbf5b77f8e0bc6213728c5140546040f0ee37f54",
    ),
    (
        b"\xaa" * 131,
        b"This is a test using a larger than block-size key and a larger than block-size data. "
        b"The key needs to be hashed before being used by the HMAC algorithm.",
        "9b09ffa71b942fcb27635fbcd5b0e944bfdc63644f0713938a7f51535c3a35e2",
    ),
)
KEY_SIZES = (0, 1, 31, 32, 63, 64, 65, 127, 128, 129, 199, 200)
SIZES = (0, 1, 55, 56, 63, 64, 65, 119, 120, 127, 128, 599, 600)


def wanted(key, data):
    return [1, 32, 32] + list(hmac.new(bytes(key), bytes(data), hashlib.sha256).digest())


class MarkTest(unittest.TestCase):
    def test_examples_of_rfc_4231(self):
        for key, data, told in EXAMPLES:
            answer = mark(list(key), list(data))
            self.assertEqual(answer[:3], [1, 32, 32])
            self.assertEqual(len(answer), 35)
            self.assertEqual(bytes(answer[3:]).hex()[:len(told)], told)

    def test_whole_answer_written_out(self):
        told = [
            182, 19, 103, 154, 8, 20, 217, 236, 119, 47, 149, 215, 120, 195, 95, 197,
            255, 22, 151, 196, 147, 113, 86, 83, 198, 199, 18, 20, 66, 146, 197, 173,
        ]
        self.assertEqual(mark([], []), [1, 32, 32] + told)

    def test_sizes_of_key_and_data(self):
        for key_size in KEY_SIZES:
            for size in SIZES:
                key = samples.spread(key_size, size + 1)
                data = samples.spread(size, key_size + 2)
                self.assertEqual(mark(key, data), wanted(key, data))

    def test_plain_and_full_bytes(self):
        for byte in (0, 1, 0x36, 0x5c, 128, 255):
            for key_size in (0, 64, 65, 200):
                self.assertEqual(mark([byte] * key_size, [byte] * 70), wanted([byte] * key_size, [byte] * 70))

    def test_a_long_key_is_as_its_sum(self):
        key = samples.spread(65, 1)
        short = list(hashlib.sha256(bytes(key)).digest())
        self.assertEqual(mark(key, [1, 2, 3]), mark(short, [1, 2, 3]))
        self.assertNotEqual(mark(key[:64], [1, 2, 3]), mark(list(hashlib.sha256(bytes(key[:64])).digest()), [1, 2, 3]))


if __name__ == "__main__":
    unittest.main()
