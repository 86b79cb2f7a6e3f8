"""store, the calls get, drop, clear and look (points 7 and 8)."""

import unittest

import samples
import slow_store
import textbook
from store_calls import (
    FOURTH, NAME, OTHER, OWN, THIRD, StoreTest, clear, copies, disk_after, drop, forged, get, harm, look, put, spoil,
    written,
)

WRONG_NAMES = ([], samples.spread(36, 1), samples.spread(40, 2))
WRONG_ROWS = {1: (1, 2, 3, 2 ** 32, samples.GREATEST), 2: (2, 3, samples.GREATEST), 3: (3, 4, samples.GREATEST)}
FULL = [put(16, 1, NAME, [1]), put(24, 2, OTHER, [2]), put(32, 3, THIRD, [3])]


def looked(number, name):
    return [1] + list(number.to_bytes(8, "little")) + list(slow_store.sha1(name))


def row_with(packed, head):
    """A whole row's bytes that hold these 3440 bytes, sealed under the right key."""
    key, nonce = slow_store.key_and_nonce(head, bytes(OWN[8:]))
    shares = slow_store.shares_for(textbook.sealed(key, nonce, list(head), list(packed)))
    return b"".join(slow_store.sector_for(i, head, shares[432 * i:432 * i + 432]) for i in range(12))


class GetTest(StoreTest):
    def test_out_of_range_is_refused(self):
        wrong = [get(5, name) for name in WRONG_NAMES]
        wrong += [get(most, NAME) for most in (3401, 2 ** 32, 2 ** 63, samples.GREATEST)]
        wrong += [get(3401, FOURTH)]
        self.assert_refused_without_change(1, [put(16, 1, NAME, [1])], wrong, -2)
        self.assert_refused_without_change(1, [], wrong, -2)

    def test_a_name_without_a_row_is_refused(self):
        self.assert_refused_without_change(3, [], [get(0, NAME), get(3400, NAME)], -4)
        self.assert_refused_without_change(3, FULL, [get(3400, FOURTH), get(0, NAME + [0]), get(5, NAME[:-1])], -4)
        for ahead in ([clear(0)], [drop(NAME)], spoil(0, range(5)), spoil(0, range(7, 12)), spoil(0, range(12))):
            self.assert_refused_without_change(3, FULL + ahead, [get(3400, NAME), get(3400, NAME)], -4)

    def test_most(self):
        for size in (0, 1, 2, 50):
            text = samples.spread(size, size)
            calls = [put(16, 1, NAME, text)]
            calls += [get(most, NAME) for most in (0, max(size - 1, 0), size, size + 1, 3400)]
            told = [size] + text
            wanted = [told if size == 0 else [-7], told if size == 0 else [-7], told, told, told]
            self.assertEqual(self.told(1, calls)[1:], wanted)

    def test_most_of_the_longest(self):
        text = samples.spread(3400, 1)
        self.assertEqual(self.told(1, [put(16, 1, NAME, text), get(3399, NAME), get(3400, NAME)])[1:],
                         [[-7], [3400] + text])

    def test_too_long_changes_nothing(self):
        self.assert_refused_without_change(1, [put(16, 1, NAME, [1, 2])], [get(1, NAME), get(0, NAME)], -7)

    def test_each_name_has_its_own_text(self):
        calls = FULL + [get(3400, THIRD), get(3400, NAME), get(3400, OTHER)]
        self.assertEqual(self.told(3, calls)[3:], [[1, 3], [1, 1], [1, 2]])

    def test_a_tag_that_is_not_right_is_refused(self):
        # Two records with the same head: sectors of one among those of the other are right, but don't belong there.
        ahead = [put(16, 1, NAME, [1] * 3400)] + copies(0, 1, [3]) + [clear(0), put(16, 1, NAME, [2] * 3400)]
        calls = ahead + copies(1, 0, [3]) + [look(0)]
        self.assertEqual(self.told(2, calls)[-1], looked(1, NAME))
        self.assert_refused_without_change(2, calls, [get(3400, NAME), get(0, NAME)], -5)
        # With that sector out of the way the others tell the record.
        self.assertEqual(self.told(2, calls + spoil(0, [3]) + [get(3400, NAME)])[-1], [3400] + [2] * 3400)

    def test_only_the_eight_at_the_lowest_places_tell(self):
        first, second = [1] * 3400, [2] * 3400
        right = [3400] + second
        ahead = [put(16, 1, NAME, first)] + copies(0, 1, range(12)) + [clear(0), put(16, 1, NAME, second)]
        for place in range(12):
            calls = ahead + copies(1, 0, [place]) + [get(3400, NAME)]
            self.assertEqual(self.told(2, calls)[-1], [-5] if place < 8 else right)
        for lost, place, answer in (([0], 8, [-5]), ([0], 9, right), ([8], 9, right), ([1, 2, 3, 4], 11, [-5])):
            calls = ahead + copies(1, 0, [place]) + spoil(0, lost) + [get(3400, NAME)]
            self.assertEqual(self.told(2, calls)[-1], answer)
        self.assertEqual(self.told(2, ahead + copies(1, 0, range(8)) + [get(3400, NAME)])[-1], [3400] + first)

    def test_a_share_changed_under_a_right_sum_is_refused(self):
        base = [put(16, 1, NAME, [1])]
        disk = disk_after(1, base)
        for place in (0, 5, 7):
            for offset in (80, 300, 511):
                harms = forged(disk, 0, place, {offset: disk[512 * place + offset] ^ 1})
                self.assertLessEqual(len(base + harms) + 2, 40)
                self.assertEqual(self.told(1, base + harms + [look(0), get(9, NAME)])[-2:], [looked(1, NAME), [-5]])
        harms = forged(disk, 0, 8, {80: disk[512 * 8 + 80] ^ 1})
        self.assertEqual(self.told(1, base + harms + [get(9, NAME)])[-1], [1, 1])

    def test_what_is_sealed_but_no_record_is_refused(self):
        head = slow_store.head_for(16, 1, NAME, 0, bytes(OWN[:8]))
        good = slow_store.record_of(NAME, [8, 9])
        empty = bytes(6144)

        def told(packed):
            calls = written(empty, 0, row_with(packed, head)) + [look(0), get(3400, NAME)]
            answer = self.told(1, calls)
            self.assertEqual(answer[-2], looked(1, NAME))
            return answer[-1]

        def changed(changes):
            packed = bytearray(good)
            for offset, byte in changes.items():
                packed[offset] = byte
            return bytes(packed)

        self.assertEqual(told(good), [2, 8, 9])
        self.assertEqual(told(changed({0: 3})), [3, 8, 9, 0])
        self.assertEqual(told(changed({0: 0x48, 1: 0x0d})), [3400, 8, 9] + [0] * 3398)
        full = slow_store.record_of(NAME, [7] * 3400)
        self.assertEqual(told(full), [3400] + [7] * 3400)
        for packed in (
            changed({0: 0x49, 1: 0x0d}), changed({0: 255, 1: 255}), changed({2: 1}), changed({3: 1}), changed({3: 255}),
            changed({0: 1}), changed({0: 0}), changed({4: 0}), changed({4: 3}), changed({4: 5}), changed({4: 36}),
            changed({4: 255}), changed({9: 1}), changed({39: 1}), changed({42: 1}), changed({3439: 1}), changed({5: 1}),
            bytes([0x49, 0x0d]) + full[2:], slow_store.record_of(OTHER, [8, 9]), bytes(3440),
        ):
            self.assertEqual(told(packed), [-5])


class TwoRowsTest(StoreTest):
    """Two whole rows of one name."""

    def both(self, first, second):
        """Calls that leave the name with one number in row 0 (text 7) and with another in row 1 (text 8)."""
        return (
            [put(16, 1, OTHER, []), put(16, second, NAME, [8])] + copies(1, 2, range(8))
            + [clear(0), clear(1), put(16, first, NAME, [7])] + copies(2, 1, range(8))
        )

    def test_the_greater_number_or_else_the_lesser_row(self):
        for first, second, row in ((2, 3, 1), (3, 2, 0), (2, 2, 0), (255, 256, 1), (256, 255, 0), (2 ** 62, 2, 0)):
            ahead = self.both(first, second)
            self.assertLess(len(ahead), 38)
            told = self.told(3, ahead + [look(0), look(1), get(1, NAME)])[-3:]
            self.assertEqual(told, [looked(first, NAME), looked(second, NAME), [1, 7 + row]])
            told = self.told(3, ahead + [drop(NAME), look(row), look(1 - row), get(1, NAME), drop(NAME), get(1, NAME)])
            self.assertEqual(told[-6:-4], [[row], [0]])
            self.assertEqual(told[-3:], [[1, 8 - row], [1 - row], [-4]])

    def test_put_goes_into_that_row(self):
        for first, second, row in ((2, 3, 1), (3, 2, 0), (2, 2, 0)):
            told = self.told(3, self.both(first, second) + [put(16, 9, NAME, [6]), get(1, NAME), look(row)])
            self.assertEqual(told[-3:], [[row], [1, 6], looked(9, NAME)])

    def test_a_greater_number_that_tells_no_record_is_still_the_name_s_row(self):
        base = self.both(2, 3)
        disk = disk_after(3, base)
        calls = base + forged(disk, 1, 0, {100: disk[6144 + 100] ^ 1})
        self.assertEqual(self.told(3, calls + [get(1, NAME), drop(NAME), get(1, NAME)])[-3:], [[-5], [1], [1, 7]])


class DropClearLookTest(StoreTest):
    def test_drop(self):
        for row, name in enumerate((NAME, OTHER, THIRD)):
            told = self.told(3, FULL + [drop(name), look(row), get(3400, name), drop(name)])[3:]
            self.assertEqual(told, [[row], [0], [-4], [-4]])
            self.assertEqual(self.disk_sum(3, FULL + [drop(name)]), self.disk_sum(3, FULL + [clear(row)]))
        self.assertEqual(self.disk_sum(1, FULL[:1] + [drop(NAME)]), [0])

    def test_drop_leaves_other_rows(self):
        calls = FULL + [drop(OTHER), get(1, NAME), get(1, THIRD), drop(NAME), drop(THIRD)]
        self.assertEqual(self.told(3, calls)[3:], [[1], [1, 1], [1, 3], [0], [2]])
        self.assertEqual(self.disk_sum(3, calls), [0])

    def test_drop_is_refused(self):
        self.assert_refused_without_change(3, FULL, [drop(name) for name in WRONG_NAMES], -2)
        self.assert_refused_without_change(3, [], [drop(name) for name in WRONG_NAMES], -2)
        self.assert_refused_without_change(3, FULL, [drop(FOURTH), drop(NAME[:1])], -4)
        self.assert_refused_without_change(3, FULL + spoil(0, range(5)), [drop(NAME)], -4)

    def test_drop_of_a_row_with_harm(self):
        self.assertEqual(self.told(1, FULL[:1] + spoil(0, range(4)) + [drop(NAME)])[-1], [0])
        self.assertEqual(self.disk_sum(1, FULL[:1] + spoil(0, range(4)) + [drop(NAME)]), [0])

    def test_clear(self):
        for row in range(3):
            told = self.told(3, FULL + [clear(row)] + [look(each) for each in range(3)])[3:]
            self.assertEqual(told[0], [0])
            self.assertEqual([each[0] for each in told[1:]], [0 if each == row else 1 for each in range(3)])
        self.assertEqual(self.disk_sum(3, FULL + [clear(2), clear(0), clear(1)]), [0])
        self.assertEqual(self.told(2, [clear(0), clear(1), clear(1)]), [[0], [0], [0]])

    def test_clear_of_bytes_that_no_one_put(self):
        harms = [harm(place, 1) for place in (0, 6143, 6144, 12287)]
        self.assertEqual(self.disk_sum(2, harms), [1 + 6144 + 6145 + 12288])
        self.assertEqual(self.disk_sum(2, harms + [clear(0)]), [6145 + 12288])
        self.assertEqual(self.disk_sum(2, harms + [clear(1)]), [1 + 6144])

    def test_rows_that_are_not_there_are_refused(self):
        for rows, wrong in WRONG_ROWS.items():
            calls = [clear(row) for row in wrong] + [look(row) for row in wrong]
            self.assert_refused_without_change(rows, FULL[:rows], calls, -2)

    def test_look(self):
        for rows in (1, 2, 3):
            self.assertEqual(self.told(rows, [look(row) for row in range(rows)]), [[0]] * rows)
        told = self.told(3, FULL + [look(0), look(1), look(2)])[3:]
        self.assertEqual(told, [looked(1, NAME), looked(2, OTHER), looked(3, THIRD)])

    def test_look_by_how_many_are_right(self):
        for order in (list(range(12)), list(range(11, -1, -1)), [3, 8, 0, 11, 5, 1, 9, 2, 10, 4, 7, 6]):
            calls = list(FULL[:1])
            for place in order:
                calls += spoil(0, [place]) + [look(0)]
            told = [row for row, call in zip(self.told(1, calls), calls) if call == look(0)]
            self.assertEqual(told, [looked(1, NAME)] * 4 + [[2]] * 7 + [[0]])

    def test_look_changes_nothing(self):
        for ahead in (FULL, FULL + spoil(1, range(3)), FULL + spoil(1, range(8))):
            looks = [look(0), look(1), look(2)]
            self.assertEqual(self.disk_sum(3, ahead + looks), self.disk_sum(3, ahead))


if __name__ == "__main__":
    unittest.main()
