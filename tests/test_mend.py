"""mend (point 5): how many shares weren't there, then all of them anew."""

import itertools
import unittest

import samples
import textbook
from sealedrowsdesk.store import make, mend
from test_make import CHOICES, WRONG


def bits(places):
    return sum(1 << place for place in places)


def whole_shares(k, m, size, seed):
    data = samples.spread(k * size, seed)
    return data + textbook.more_shares(k, m, size, data)


def spoilt(shares, size, places, seed):
    """The shares with other bytes at those places."""
    out = list(shares)
    noise = samples.spread(len(shares), seed)
    for place in places:
        for at in range(place * size, place * size + size):
            out[at] = noise[at] if noise[at] != out[at] else noise[at] ^ 1
    return out


def chosen(k, count, seed):
    """k places out of so many, without a pattern."""
    noise = samples.spread(count, seed)
    return sorted(sorted(range(count), key=lambda place: (noise[place], place))[:k])


class MendTest(unittest.TestCase):
    def check(self, k, m, size, there, seed):
        """With these alone there and all others spoilt, all come back."""
        shares = whole_shares(k, m, size, seed)
        lost = [place for place in range(k + m) if place not in there]
        handed = spoilt(shares, size, lost, seed + 1)
        wanted = [1, len(lost), (k + m) * size] + shares
        self.assertEqual(mend(k, m, size, bits(there), handed), wanted, (k, m, size, there))

    def test_worked_out_by_hand(self):
        # One piece and two more: the byte, the byte again, the byte times 8d.
        for there, missing in ((0b001, 2), (0b011, 1), (0b101, 1), (0b111, 0)):
            handed = [2] + [2 if there & 2 else 99] + [1 if there & 4 else 98]
            self.assertEqual(mend(1, 2, 1, there, handed), [1, missing, 3, 2, 2, 1])
        self.assertEqual(mend(1, 2, 1, 0b010, [9, 2, 9]), [1, 2, 3, 2, 2, 1])
        self.assertEqual(mend(1, 2, 1, 0b100, [9, 9, 1]), [1, 2, 3, 2, 2, 1])
        # Two pieces and one more: 8d times the first and f6 times the second.
        self.assertEqual(mend(2, 1, 2, 0b110, [9, 9, 0, 3, 1, 1]), [1, 1, 6, 2, 0, 0, 3, 1, 1])
        self.assertEqual(mend(2, 1, 2, 0b101, [2, 0, 9, 9, 1, 1]), [1, 1, 6, 2, 0, 0, 3, 1, 1])

    def test_every_choice_of_few(self):
        for k in range(1, 6):
            for m in range(0, 7 - k):
                for there in itertools.combinations(range(k + m), k):
                    self.check(k, m, 3, there, k + m)

    def test_every_set_that_is_enough_of_few(self):
        for k, m in ((1, 3), (2, 3), (3, 3), (4, 2)):
            for count in range(k, k + m + 1):
                for there in itertools.combinations(range(k + m), count):
                    self.check(k, m, 2, there, count)

    def test_every_choice_of_8_of_12(self):
        for there in itertools.combinations(range(12), 8):
            self.check(8, 4, 1, there, sum(there))

    def test_many_choices_of_32(self):
        for k, m in CHOICES:
            if k + m == 32:
                self.check(k, m, 2, list(range(k)), 1)
                self.check(k, m, 2, list(range(m, 32)), 2)
                for seed in range(6):
                    self.check(k, m, 2, chosen(k, 32, seed), seed)

    def test_sizes(self):
        for k, m in CHOICES:
            for size in (0, 1, 64) if k * m < 100 else (0, 1):
                self.check(k, m, size, chosen(k, k + m, size), k)
                self.check(k, m, size, list(range(m, k + m)), m)

    def test_the_most_that_may_be_handed_in(self):
        self.check(16, 16, 64, list(range(16, 32)), 1)

    def test_nothing_missing(self):
        for k, m in CHOICES:
            self.check(k, m, 4, list(range(k + m)), k)

    def test_those_at_the_lowest_places_alone_tell_the_data(self):
        for k, m in ((1, 3), (3, 3), (5, 4), (8, 4)):
            size = 3
            shares = whole_shares(k, m, size, k)
            for seed in range(25):
                there = chosen(k + 1 + seed % m, k + m, seed)
                wrong = [place for place in range(k + m) if place not in there[:k]]
                handed = spoilt(shares, size, wrong, seed)
                wanted = [1, k + m - len(there), (k + m) * size] + shares
                self.assertEqual(mend(k, m, size, bits(there), handed), wanted)

    def test_shares_that_do_not_belong_together(self):
        # Any bytes at the k lowest places are the shares of some data.
        for k, m in ((1, 2), (2, 2), (4, 3), (8, 4), (12, 20)):
            for seed in range(8):
                size = 2
                there = chosen(k + seed % (m + 1), k + m, seed)
                handed = samples.spread((k + m) * size, seed)
                answer = mend(k, m, size, bits(there), handed)
                self.assertEqual(answer[:3], [1, k + m - len(there), (k + m) * size])
                told = answer[3:]
                self.assertEqual(told[k * size:], textbook.more_shares(k, m, size, told[:k * size]))
                for place in there[:k]:
                    self.assertEqual(told[place * size:][:size], handed[place * size:][:size])

    def test_no_bytes(self):
        for k, m in CHOICES:
            self.assertEqual(mend(k, m, 0, bits(range(k + m)), []), [1, 0, 0])
            self.assertEqual(mend(k, m, 0, bits(range(m, k + m)), []), [1, m, 0])

    def test_what_make_gives_is_mended(self):
        data = samples.spread(8 * 64, 5)
        shares = data + make(8, 4, 64, data)[3:]
        handed = spoilt(shares, 64, (0, 3, 5, 11), 6)
        self.assertEqual(mend(8, 4, 64, bits((1, 2, 4, 6, 7, 8, 9, 10)), handed), [1, 4, 768] + shares)

    def test_out_of_range_is_refused(self):
        for k, m in WRONG:
            for size in (0, 1, 64):
                for there in (0, 1, 0xffffffff, samples.GREATEST):
                    self.assertEqual(mend(k, m, size, there, []), [1, -2])

    def test_a_bit_too_many_is_refused(self):
        for k, m in CHOICES:
            for size in (0, 2):
                shares = whole_shares(k, m, size, 1)
                for place in (k + m, k + m + 1, 32, 40, 63):
                    if place >= k + m:
                        for rest in (0, bits(range(k + m)), bits(range(k)), bits(range(k - 1))):
                            self.assertEqual(mend(k, m, size, rest | 1 << place, shares), [1, -2])
                self.assertEqual(mend(k, m, size, samples.GREATEST, shares), [1, -2])

    def test_too_few_are_refused(self):
        for k, m in CHOICES:
            for size in (0, 2):
                shares = whole_shares(k, m, size, 1)
                few = [0, bits(range(k - 1)), bits(range(m + 1, k + m)), bits(chosen(k - 1, k + m, 3))]
                for there in few:
                    self.assertEqual(mend(k, m, size, there, shares), [1, -5])
        for k, m in ((2, 2), (3, 2), (8, 4)):
            for there in range(1 << (k + m)):
                answer = mend(k, m, 0, there, [])
                self.assertEqual(answer[:2] == [1, -5], there.bit_count() < k)


if __name__ == "__main__":
    unittest.main()
