"""store, the call put (point 6), and the disk as it is written."""

import unittest

import samples
import slow_store
from store_calls import (
    FOURTH, LARGEST, MEND, NAME, OTHER, OWN, THIRD, StoreTest, clear, copies, copy, disk_after, drop, forged, get,
    harm, look, put, spoil,
)
from sealedrowsdesk.store import store

WRONG_NAMES = ([], samples.spread(36, 1), samples.spread(40, 2))
WRONG_NUMBERS = (0, LARGEST + 1, 2 ** 63, samples.GREATEST)
FULL = [put(16, 1, NAME, [1]), put(16, 2, OTHER, [2]), put(16, 3, THIRD, [3])]


class DiskTest(StoreTest):
    def test_no_calls(self):
        for rows in (1, 2, 3):
            self.assertEqual(store(rows, OWN, []), [1, 0])
            self.assertEqual(self.told(rows, []), [])

    def test_disk_sum_of_single_bytes(self):
        for rows in (1, 2, 3):
            last = 6144 * rows - 1
            self.assertEqual(store(rows, OWN, [harm(0, 1)]), [1, 0, 1, 1])
            self.assertEqual(store(rows, OWN, [harm(0, 255), harm(1, 2)]), [1, 0, 1, 0, 1, 259])
            self.assertEqual(store(rows, OWN, [harm(last, 255)]), [1, 0, 1, 255 * (last + 1)])

    def test_disk_sum_is_by_rests_of_2_to_the_32(self):
        calls = [harm(place, 255) for place in range(12288, 18432)]
        total = 255 * sum(range(12289, 18433))
        self.assertGreater(total, 2 ** 32)
        self.assertEqual(store(3, OWN, calls)[-2:], [1, total % 2 ** 32])

    def test_a_whole_answer_written_out(self):
        calls = [put(16, 1, [97], [104, 105]), get(2, [97]), look(0), look(1), MEND]
        wanted = [
            1, 0, 3, 2, 104, 105,
            29, 1, 1, 0, 0, 0, 0, 0, 0, 0,
            134, 247, 228, 55, 250, 165, 167, 252, 225, 93, 29, 220, 185, 234, 234, 234, 55, 118, 103, 184,
            1, -2, 4, 0, 1, 0, 0, 1, 2311343531,
        ]
        self.assertEqual(store(1, list(range(40)), calls), wanted)

    def test_the_disk_is_as_a_slow_way_writes_it(self):
        for length in samples.LENGTHS:
            for name in ([7], samples.spread(35, 3)):
                for text in ([], [1], samples.spread(399 - len(name), 4)):
                    calls = [put(length, 5, name, text)]
                    head = slow_store.head_for(length, 5, name, 0, bytes(OWN[:8]))
                    row = slow_store.row_for(head, bytes(OWN[8:]), name, text)
                    weighed = sum((i + 1) * byte for i, byte in enumerate(row)) % 2 ** 32
                    self.assertEqual(store(1, OWN, calls), [1, 0, 1, weighed])

    def test_sectors_are_as_the_words_lay_them_out(self):
        disk = disk_after(2, [put(24, 1, OTHER, []), put(24, 0x0102030405060708, NAME, [9])])
        sector = disk[6144 + 512 * 11:]
        self.assertEqual(sector[32:36], bytes([0x53, 0x59, 0x32, 0x32]))
        self.assertEqual(list(sector[36:48]), [11, 24, 0, 0, 8, 7, 6, 5, 4, 3, 2, 1])
        self.assertEqual(sector[48:68], slow_store.sha1(NAME))
        self.assertEqual(list(sector[68:80]), [1, 0, 0, 0] + OWN[:8])
        self.assertEqual(sector[:32], slow_store.sha256(sector[32:]))
        self.told(2, [put(24, 1, OTHER, []), put(24, 0x0102030405060708, NAME, [9])])


class PutTest(StoreTest):
    def test_put_then_get(self):
        for length in samples.LENGTHS:
            for name in ([7], samples.spread(35, 3)):
                for text in ([], [5], samples.spread(399 - len(name), 4)):
                    calls = [put(length, 1, name, text), get(len(text), name)]
                    self.assertLessEqual(max(len(call) for call in calls), 403)
                    self.assertEqual(self.told(1, calls), [[0], [len(text)] + text])

    def test_names_and_texts_of_0s_and_255s(self):
        for name in ([0], [0] * 35, [255] * 35):
            for text in ([0], [0] * 20, [255] * 20):
                calls = [put(32, 1, name, text), get(3400, name)]
                self.assertEqual(self.told(1, calls), [[0], [len(text)] + text])

    def test_longest_text(self):
        for length in samples.LENGTHS:
            text = samples.spread(3400, length)
            self.assertEqual(self.told(1, [put(length, 1, NAME, text), get(3400, NAME)]), [[0], [3400] + text])
            text = samples.spread(3399, length)
            self.assertEqual(self.told(1, [put(length, 1, NAME, text), get(3400, NAME)]), [[0], [3399] + text])

    def test_own_is_part_of_what_is_written(self):
        calls = [put(32, 1, NAME, [1, 2, 3]), get(3, NAME)]
        sums = set()
        for place in (None, 0, 7, 8, 39):
            own = list(OWN)
            if place is not None:
                own[place] ^= 1
            self.assertEqual(self.told(1, calls, own), [[0], [3, 1, 2, 3]])
            sums.add(tuple(self.disk_sum(1, calls, own)))
        self.assertEqual(len(sums), 5)

    def test_own_of_0s_and_of_255s(self):
        for byte in (0, 255):
            own = [byte] * 40
            calls = [look(0), put(16, 1, NAME, [1]), get(1, NAME), look(0)]
            self.assertEqual(self.told(1, calls, own)[:3], [[0], [0], [1, 1]])

    def test_smallest_and_largest_number(self):
        for number in (1, 2, 255, 256, 2 ** 32, LARGEST - 1, LARGEST):
            calls = [put(16, number, NAME, [5]), get(1, NAME), look(0)]
            told = self.told(1, calls)
            self.assertEqual(told[:2], [[0], [1, 5]])
            self.assertEqual(told[2][:9], [1] + list(number.to_bytes(8, "little")))

    def test_out_of_range_is_refused(self):
        wrong = [put(length, 2, NAME, [2]) for length in samples.WRONG_LENGTHS]
        wrong += [put(16, number, NAME, [2]) for number in WRONG_NUMBERS]
        for text in ([], [2], samples.spread(300, 1)):
            wrong += [put(16, 2, name, text) for name in WRONG_NAMES]
        wrong += [put(16, 2, NAME, samples.spread(size, 1)) for size in (3401, 3500)]
        for ahead in ([], [put(16, 1, NAME, [1])]):
            self.assert_refused_without_change(1, ahead, wrong, -2)

    def test_out_of_range_comes_ahead_of_all_else(self):
        ahead = [put(16, LARGEST, NAME, [1])]
        wrong = [put(17, 1, OTHER, []), put(16, 0, OTHER, []), put(16, 1, [], []), put(16, 1, [1] * 36, [])]
        self.assert_refused_without_change(1, ahead, wrong, -2)

    def test_a_number_that_is_not_greater_is_refused(self):
        ahead = [put(16, 5, NAME, [1])]
        wrong = [put(16, number, name, [2]) for number in (1, 4, 5) for name in (NAME, OTHER)]
        self.assert_refused_without_change(2, ahead, wrong, -4)
        self.assertEqual(self.told(2, ahead + [put(16, 6, NAME, [2]), get(9, NAME)])[1:], [[0], [1, 2]])
        self.assertEqual(self.told(2, ahead + [put(16, 6, OTHER, [2]), get(9, OTHER)])[1:], [[1], [1, 2]])

    def test_numbers_are_compared_as_numbers(self):
        for low, high in ((255, 256), (2 ** 32 - 1, 2 ** 32), (0x0102, 0x0201), (LARGEST - 1, LARGEST)):
            self.assertEqual(self.told(2, [put(16, low, NAME, []), put(16, high, OTHER, [])]), [[0], [1]])
            self.assertEqual(self.told(2, [put(16, high, NAME, []), put(16, low, OTHER, [])]), [[0], [-4]])
        self.assert_refused_without_change(2, [put(16, LARGEST, NAME, [])], [put(16, LARGEST, OTHER, [])], -4)

    def test_numbers_of_every_row_count(self):
        ahead = [put(16, 1, NAME, []), put(16, 7, OTHER, []), put(16, 9, NAME, [])]
        for number, answer in ((7, -4), (8, -4), (9, -4), (10, 2)):
            self.assertEqual(self.told(3, ahead + [put(16, number, THIRD, [])])[-1], [answer])

    def test_a_torn_row_s_number_counts(self):
        for right in (1, 4, 7):
            for kept in (range(right), range(12 - right, 12)):
                ahead = [put(16, 5, NAME, [])] + spoil(0, [i for i in range(12) if i not in kept]) + [look(0)]
                self.assertEqual(self.told(2, ahead)[-1], [2])
                self.assert_refused_without_change(2, ahead, [put(16, 5, OTHER, [])], -4)
                self.assertEqual(self.told(2, ahead + [put(16, 6, OTHER, [])])[-1], [1])

    def test_the_number_of_a_right_sector_with_another_head_counts(self):
        base = [put(16, 5, NAME, [1])]
        ahead = base + forged(disk_after(2, base), 0, 11, {40: 200}) + [look(0)]
        self.assertEqual(self.told(2, ahead)[-1][:2], [1, 5])
        for number, answer in ((6, -4), (199, -4), (200, -4), (201, 1)):
            self.assertEqual(self.told(2, ahead + [put(16, number, OTHER, [])])[-1], [answer])
        self.assertEqual(self.told(2, ahead + [put(16, 201, NAME, [7]), get(1, NAME)])[-2:], [[0], [1, 7]])

    def test_what_is_not_right_does_not_count(self):
        for ahead in (
            [put(16, 5, NAME, []), clear(0)],
            [put(16, 5, NAME, []), drop(NAME)],
            [put(16, 5, NAME, [])] + spoil(0, range(12)),
            [put(16, 5, NAME, [])] + copies(0, 1, range(12)) + [clear(0)],
            [put(16, 5, NAME, [])] + [copy(12, i) for i in range(12)],
        ):
            self.assertEqual(self.told(2, ahead + [look(0), put(16, 1, OTHER, [8])])[-2:], [[0], [0]])

    def test_a_second_put_of_a_name_goes_into_its_row(self):
        for rows in (1, 2, 3):
            names = [NAME, OTHER, THIRD][:rows]
            calls = [put(16, 1 + k, name, [k]) for k, name in enumerate(names)]
            for k, name in enumerate(names):
                more = [put(32, 10, name, [99, k]), get(9, name), look(k)]
                told = self.told(rows, calls + more)[-3:]
                self.assertEqual(told[:2], [[k], [2, 99, k]])
                self.assertEqual(told[2][:2], [1, 10])
                self.assertEqual(self.told(rows, calls + more + [get(9, each) for each in names])[-rows:],
                                 [[2, 99, k] if each == name else [1, j] for j, each in enumerate(names)])

    def test_a_name_s_own_row_is_taken_though_an_earlier_one_is_empty(self):
        calls = [put(16, 1, NAME, []), put(16, 2, OTHER, []), clear(0), put(16, 3, OTHER, [4]), look(0), get(1, OTHER)]
        self.assertEqual(self.told(2, calls)[-3:], [[1], [0], [1, 4]])

    def test_a_shorter_text_leaves_nothing_of_a_longer_one(self):
        calls = [put(16, 1, NAME, samples.spread(300, 1)), put(16, 2, NAME, [1]), get(3400, NAME)]
        self.assertEqual(self.told(1, calls)[-1], [1, 1])
        self.assertEqual(self.disk_sum(1, calls), self.disk_sum(1, [put(16, 2, NAME, [1])]))

    def test_no_row_is_left(self):
        for rows in (1, 2, 3):
            self.assert_refused_without_change(rows, FULL[:rows], [put(16, 9, FOURTH, [1])], -6)
            self.assertEqual(self.told(rows, FULL[:rows] + [put(16, 9, NAME, [1])])[-1], [0])

    def test_torn_rows_are_not_taken(self):
        ahead = [put(16, 1, NAME, [1])] + spoil(0, range(5)) + [look(0)]
        self.assertEqual(self.told(1, ahead)[-1], [2])
        for name in (NAME, OTHER):
            self.assert_refused_without_change(1, ahead, [put(16, 2, name, [1])], -6)
            self.assertEqual(self.told(2, ahead + [put(16, 2, name, [5]), look(0), get(1, name)])[-3:],
                             [[1], [2], [1, 5]])

    def test_the_number_is_looked_at_ahead_of_the_row(self):
        for rows in (1, 2, 3):
            wrong = [put(16, number, FOURTH, [1]) for number in range(1, rows + 1)]
            self.assert_refused_without_change(rows, FULL[:rows], wrong, -4)

    def test_the_first_empty_row_is_taken(self):
        for row, name in enumerate((NAME, OTHER, THIRD)):
            for ahead in ([drop(name)], [clear(row)], spoil(row, range(12))):
                self.assertEqual(self.told(3, FULL + ahead + [put(16, 9, FOURTH, [6]), get(1, FOURTH)])[-2:],
                                 [[row], [1, 6]])
        for cleared, row in (((0, 2), 0), ((1, 2), 1), ((2, 1), 1), ((0, 1, 2), 0)):
            calls = FULL + [clear(each) for each in cleared] + [put(16, 9, FOURTH, [])]
            self.assertEqual(self.told(3, calls)[-1], [row])

    def test_put_writes_over_what_is_not_right(self):
        ahead = [harm(place, 255) for place in (0, 36, 511, 512, 6143)]
        calls = ahead + [look(0), put(16, 1, NAME, [3]), get(1, NAME)]
        self.assertEqual(self.told(1, calls)[-3:], [[0], [0], [1, 3]])
        self.assertEqual(self.disk_sum(1, calls), self.disk_sum(1, [put(16, 1, NAME, [3])]))


if __name__ == "__main__":
    unittest.main()
