"""store, the call mend (point 8)."""

import unittest

import samples
from store_calls import (
    MEND, NAME, OTHER, OWN, THIRD, StoreTest, at, clear, copies, copy, disk_after, forged, get, harm, look, put, spoil,
    written,
)

FULL = [put(16, 1, NAME, [1]), put(24, 2, OTHER, [2]), put(32, 3, THIRD, samples.spread(300, 3))]
# The first and last byte of each part of a sector.
PARTS = (0, 31, 32, 35, 36, 37, 38, 39, 40, 47, 48, 67, 68, 71, 72, 79, 80, 511)


class MendTest(StoreTest):
    def test_empty_disk(self):
        for rows in (1, 2, 3):
            self.assertEqual(self.told(rows, [MEND]), [[0, 0, 0, rows]])
            self.assertEqual(self.disk_sum(rows, [MEND]), [0])

    def test_nothing_to_mend(self):
        for rows in (1, 2, 3):
            for count in range(1, rows + 1):
                self.assertEqual(self.told(rows, FULL[:count] + [MEND, MEND])[count:],
                                 [[0, count, 0, rows - count]] * 2)
                self.assertEqual(self.disk_sum(rows, FULL[:count] + [MEND]), self.disk_sum(rows, FULL[:count]))

    def test_harmed_sectors_are_written_as_they_were(self):
        disk = disk_after(1, FULL[:1])
        whole = self.disk_sum(1, FULL[:1])
        for k, offset in enumerate(PARTS):
            places = [(k + 5 * i) % 12 for i in range(1 + k % 4)]
            calls = FULL[:1] + [harm(at(0, i, offset), disk[at(0, i, offset)] ^ 255) for i in places]
            self.assertNotEqual(self.disk_sum(1, calls), whole)
            calls += [MEND, MEND, get(1, NAME)]
            self.assertEqual(self.told(1, calls)[-3:], [[len(places), 1, 0, 0], [0, 1, 0, 0], [1, 1]])
            self.assertEqual(self.disk_sum(1, calls), whole)

    def test_any_four_are_mended(self):
        whole = self.disk_sum(1, FULL[2:])
        for places in ((0, 1, 2, 3), (4, 5, 6, 7), (8, 9, 10, 11), (0, 4, 8, 11), (3, 6, 7, 10), (1, 2, 5, 9)):
            calls = FULL[2:] + [copy((i + 1) % 12, i) for i in places] + [MEND]
            told = self.told(1, calls)[-1]
            self.assertEqual(told, [4, 1, 0, 0])
            self.assertEqual(self.disk_sum(1, calls), whole)

    def test_a_sector_harmed_twice_counts_once(self):
        calls = FULL[:1] + [harm(100, 1), harm(101, 2), harm(102, 3), harm(511, 4), MEND]
        self.assertEqual(self.told(1, calls)[-1], [1, 1, 0, 0])

    def test_harm_that_changes_nothing_does_not_count(self):
        disk = disk_after(1, FULL[:1])
        self.assertEqual(self.told(1, FULL[:1] + [harm(100, disk[100]), MEND])[-1], [0, 1, 0, 0])

    def test_all_rows_are_mended(self):
        calls = FULL + spoil(0, [1]) + spoil(1, [2, 3]) + spoil(2, [0, 4, 8, 11])
        self.assertEqual(self.told(3, calls + [MEND, MEND])[-2:], [[7, 3, 0, 0], [0, 3, 0, 0]])
        self.assertEqual(self.disk_sum(3, calls + [MEND]), self.disk_sum(3, FULL))

    def test_mended_rows_bear_harm_anew(self):
        calls = FULL[2:]
        for places in ((0, 1, 2, 3), (4, 5, 6, 7), (8, 9, 10, 11)):
            calls = calls + spoil(0, places) + [MEND]
        self.assertEqual(self.told(1, calls + [get(300, THIRD)])[-1], [300] + samples.spread(300, 3))
        self.assertEqual(self.disk_sum(1, calls), self.disk_sum(1, FULL[2:]))

    def test_torn_rows_stay_as_they_are(self):
        for count in (5, 8, 11):
            calls = FULL[:1] + spoil(0, range(count))
            self.assertEqual(self.told(1, calls + [MEND, look(0)])[-2:], [[0, 0, 1, 0], [2]])
            self.assertEqual(self.disk_sum(1, calls + [MEND]), self.disk_sum(1, calls))

    def test_empty_rows_stay_as_they_are(self):
        for calls in (FULL[:1] + spoil(0, range(12)), [harm(place, 7) for place in (0, 36, 512, 6143)]):
            self.assertEqual(self.told(1, calls + [MEND, look(0)])[-2:], [[0, 0, 0, 1], [0]])
            self.assertEqual(self.disk_sum(1, calls + [MEND]), self.disk_sum(1, calls))

    def test_rows_of_each_state(self):
        for whole, torn, empty in ((0, 1, 2), (2, 0, 1), (1, 2, 0)):
            calls = FULL + spoil(whole, [5]) + spoil(torn, range(6)) + [clear(empty), MEND, MEND]
            self.assertEqual(self.told(3, calls)[-2:], [[1, 1, 1, 1], [0, 1, 1, 1]])
        self.assertEqual(self.told(3, FULL + spoil(0, range(5)) + spoil(2, range(9)) + [MEND])[-1], [0, 1, 2, 0])
        self.assertEqual(self.told(3, FULL + spoil(1, range(12)) + [clear(2), MEND])[-1], [0, 1, 0, 2])

    def test_a_right_sector_with_another_head_is_written_anew(self):
        ahead = [put(16, 1, NAME, [1])] + copies(0, 1, range(12)) + [put(32, 2, NAME, [2])]
        whole = self.disk_sum(2, ahead)
        for places in ([0], [11], [0, 3, 7, 11], [8, 9]):
            calls = ahead + copies(1, 0, places)
            self.assertNotEqual(self.disk_sum(2, calls), whole)
            self.assertEqual(self.told(2, calls + [MEND, MEND, get(1, NAME)])[-3:],
                             [[len(places), 1, 0, 1], [0, 1, 0, 1], [1, 2]])
            self.assertEqual(self.disk_sum(2, calls + [MEND]), whole)

    def test_newer_sectors_among_older_ones_are_written_back(self):
        ahead = [put(16, 1, NAME, [1])] + copies(0, 1, range(12)) + [put(32, 2, NAME, [2])]
        calls = ahead + copies(1, 0, range(2, 12)) + [MEND, get(1, NAME), put(16, 2, NAME, [3])]
        self.assertEqual(self.told(2, calls)[-3:], [[2, 1, 0, 1], [1, 1], [0]])

    def test_a_sector_with_a_wrong_share_under_a_right_sum(self):
        base = FULL[:1]
        disk = disk_after(1, base)
        # Behind the eight that tell the rest it is mended.
        calls = base + forged(disk, 0, 9, {200: disk[at(0, 9, 200)] ^ 4})
        self.assertEqual(self.told(1, calls + [MEND, MEND])[-2:], [[1, 1, 0, 0], [0, 1, 0, 0]])
        self.assertEqual(self.disk_sum(1, calls + [MEND]), self.disk_sum(1, base))
        # Among them it tells the others, which are written as they belong to it.
        calls = base + forged(disk, 0, 3, {200: disk[at(0, 3, 200)] ^ 4})
        self.assertEqual(self.told(1, calls + [MEND, MEND, get(1, NAME)])[-3:], [[4, 1, 0, 0], [0, 1, 0, 0], [-5]])

    def test_the_secret_is_not_asked(self):
        other = list(OWN)
        other[8] ^= 1
        disk = disk_after(1, FULL[:1] + spoil(0, [0, 6]))
        calls = written(bytes(6144), 0, disk) + [MEND, get(1, NAME)]
        self.assertEqual(self.told(1, calls, other)[-2:], [[2, 1, 0, 0], [-5]])
        self.assertEqual(self.disk_sum(1, calls, other), self.disk_sum(1, FULL[:1]))

    def test_the_id_is_asked(self):
        other = list(OWN)
        other[0] ^= 1
        disk = disk_after(1, FULL[:1] + spoil(0, [0, 6]))
        calls = written(bytes(6144), 0, disk)
        self.assertEqual(self.told(1, calls + [MEND], other)[-1], [0, 0, 0, 1])
        self.assertEqual(self.disk_sum(1, calls + [MEND], other), self.disk_sum(1, calls, other))

    def test_two_rows_of_one_name_are_both_mended(self):
        calls = [put(16, 1, NAME, [1])] + spoil(0, range(5)) + [put(16, 2, NAME, [2])]
        calls += [harm(at(0, i, 32), 0x53) for i in range(4)] + spoil(1, [7]) + [MEND, look(0), look(1)]
        told = self.told(2, calls)[-3:]
        self.assertEqual(told[0], [2, 2, 0, 0])
        self.assertEqual((told[1][:2], told[2][:2]), ([1, 1], [1, 2]))


if __name__ == "__main__":
    unittest.main()
