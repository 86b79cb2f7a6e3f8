"""keys (point 1): how many rounds, the round keys, those for the way back."""

import unittest

import samples
import textbook
from sealedrowsdesk.store import keys

ROUNDS = {16: 10, 24: 12, 32: 14}


def parts(length, key):
    """The answer taken apart: its number, the round keys, those for the way back, and what is left over."""
    answer = keys(length, key)
    size = answer[2]
    there = answer[3:3 + size]
    behind = answer[3 + size:]
    return answer[1], there, behind[1:1 + behind[0]], behind[1 + behind[0]:]


class KeysTest(unittest.TestCase):
    def tried_keys(self, length):
        return [
            samples.hexed(samples.EXPANSIONS[length][0]),
            list(range(length)),
            [0] * length,
            [255] * length,
            list(range(255, 255 - length, -1)),
        ] + [samples.spread(length, seed) for seed in range(5)]

    def test_rounds_are_10_12_or_14(self):
        for length in samples.LENGTHS:
            for key in self.tried_keys(length):
                self.assertEqual(keys(length, key)[:2], [1, ROUNDS[length]])

    def test_round_keys_are_those_of_fips_197(self):
        for length in samples.LENGTHS:
            key, words = samples.EXPANSIONS[length]
            there = parts(length, samples.hexed(key))[1]
            self.assertEqual(there, samples.hexed(key) + samples.hexed(words))

    def test_way_back_keys_are_those_of_fips_197(self):
        for length in samples.LENGTHS:
            told = samples.hexed(samples.WAY_BACK[length])
            back = parts(length, list(range(length)))[2]
            self.assertEqual(back[:len(told)], told)

    def test_each_row_has_one_key_more_than_rounds_and_nothing_is_left(self):
        for length in samples.LENGTHS:
            for key in self.tried_keys(length):
                answer = keys(length, key)
                size = 16 * (ROUNDS[length] + 1)
                self.assertEqual(len(answer), 2 + 1 + size + 1 + size)
                self.assertEqual((answer[2], answer[3 + size]), (size, size))
                self.assertEqual(parts(length, key)[3], [])

    def test_first_and_last_for_the_way_back_are_not_mixed_and_the_rest_are(self):
        for length in samples.LENGTHS:
            for key in self.tried_keys(length):
                there, back = parts(length, key)[1:3]
                self.assertEqual(back[:16], there[-16:])
                self.assertEqual(back[-16:], there[:16])
                for at in range(16, len(there) - 16, 16):
                    opposite = there[len(there) - 16 - at:len(there) - at]
                    self.assertEqual(textbook.mixed(back[at:at + 16], textbook.FORWARD), opposite)

    def test_whole_answer_number_by_number(self):
        for length in samples.LENGTHS:
            for key in self.tried_keys(length):
                there = sum(textbook.round_keys(key), [])
                back = sum(textbook.way_back_keys(key), [])
                wanted = [1, ROUNDS[length], len(there)] + there + [len(back)] + back
                self.assertEqual(keys(length, key), wanted)

    def test_whole_answer_written_out(self):
        there = samples.hexed(
            "000102030405060708090a0b0c0d0e0f d6aa74fdd2af72fadaa678f1d6ab76fe"
            "b692cf0b643dbdf1be9bc5006830b3fe b6ff744ed2c2c9bf6c590cbf0469bf41"
            "47f7f7bc95353e03f96c32bcfd058dfd 3caaa3e8a99f9deb50f3af57adf622aa"
            "5e390f7df7a69296a7553dc10aa31f6b 14f9701ae35fe28c440adf4d4ea9c026"
            "47438735a41c65b9e016baf4aebf7ad2 549932d1f08557681093ed9cbe2c974e"
            "13111d7fe3944a17f307a78b4d2b30c5"
        )
        wanted = [1, 10, 176] + there + [176] + samples.hexed(samples.WAY_BACK[16])
        self.assertEqual(keys(16, list(range(16))), wanted)

    def test_other_lengths_are_refused(self):
        for length in samples.WRONG_LENGTHS:
            self.assertEqual(keys(length, []), [1, -2])


if __name__ == "__main__":
    unittest.main()
