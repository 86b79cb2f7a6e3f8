"""store, the calls harm and copy (point 9), and when a sector is right."""

import unittest

import samples
from store_calls import (
    NAME, OTHER, OWN, SIGN_AT, THIRD, StoreTest, at, clear, copies, copy, disk_after, forged, get, harm, heal, look,
    put, spoil, summed, written,
)

# The first and last byte of each part of a sector, and some between.
PARTS = (0, 15, 31, 32, 33, 34, 35, 36, 37, 38, 39, 40, 44, 47, 48, 60, 67, 68, 69, 71, 72, 76, 79, 80, 81, 300, 511)
RECORD = [put(24, 3, NAME, [4, 5, 6])]
TEXT = [3, 4, 5, 6]


class HarmTest(StoreTest):
    def harms(self, disk, row, places, offset):
        return [harm(at(row, i, offset), disk[at(row, i, offset)] ^ 1) for i in places]

    def test_harm_answers_0_and_is_counted_in_the_sum(self):
        self.assertEqual(self.told(1, [harm(0, 0), harm(6143, 255), harm(5, 1)]), [[0], [0], [0]])
        self.assertEqual(self.disk_sum(1, [harm(0, 0), harm(6143, 255), harm(5, 1)]), [255 * 6144 + 6])
        self.assertEqual(self.disk_sum(1, [harm(7, 9), harm(7, 200), harm(7, 3)]), [24])

    def test_four_harmed_sectors_are_borne(self):
        disk = disk_after(1, RECORD)
        for count, offset in enumerate(PARTS):
            places = [(count * 5 + 7 * k) % 12 for k in range(4)]
            self.assertEqual(len(set(places)), 4)
            calls = RECORD + self.harms(disk, 0, places, offset) + [get(3, NAME), look(0)]
            told = self.told(1, calls)
            self.assertEqual(told[-2], TEXT)
            self.assertEqual(told[-1][:2], [1, 3])

    def test_any_four_may_be_harmed(self):
        for places in ((0, 1, 2, 3), (4, 5, 6, 7), (8, 9, 10, 11), (0, 3, 7, 11), (1, 2, 9, 10), (0, 5, 6, 8)):
            for count in range(1, 5):
                calls = RECORD + spoil(0, places[:count]) + [get(3, NAME)]
                self.assertEqual(self.told(1, calls)[-1], TEXT)

    def test_five_harmed_sectors_tear_a_row(self):
        disk = disk_after(1, RECORD)
        for count, offset in enumerate(PARTS):
            places = [(count * 5 + 7 * k) % 12 for k in range(5)]
            calls = RECORD + self.harms(disk, 0, places, offset) + [look(0), get(3, NAME)]
            self.assertEqual(self.told(1, calls)[-2:], [[2], [-4]])

    def test_each_byte_of_a_sector_matters(self):
        disk = disk_after(1, RECORD)
        ahead = RECORD + spoil(0, range(4))
        calls = list(ahead)
        for offset in PARTS:
            place = at(0, 6, offset)
            calls += [harm(place, disk[place] ^ 128), look(0), harm(place, disk[place]), look(0)]
        told = self.told(1, calls)[len(ahead):]
        self.assertEqual(told[1::4], [[2]] * len(PARTS))
        self.assertEqual([row[0] for row in told[3::4]], [1] * len(PARTS))

    def test_harm_undone(self):
        calls = RECORD + spoil(0, range(12)) + [look(0)] + heal(0, range(12)) + [get(3, NAME)]
        told = self.told(1, calls)
        self.assertEqual(told[13], [0])
        self.assertEqual(told[-1], TEXT)
        self.assertEqual(self.disk_sum(1, calls), self.disk_sum(1, RECORD))

    def test_harm_of_one_row_leaves_the_others(self):
        ahead = [put(16, 1, NAME, [1]), put(16, 2, OTHER, [2]), put(16, 3, THIRD, [3])]
        for row in range(3):
            told = self.told(3, ahead + spoil(row, range(5)) + [look(0), look(1), look(2)])[-3:]
            self.assertEqual([each[0] for each in told], [2 if each == row else 1 for each in range(3)])


class RightTest(StoreTest):
    """Row 1 has one sector that was forged, and is torn where that is right, else empty."""

    def states(self, changes_by_name, sector_of_row_0=0, place=0):
        base = RECORD + [copy(sector_of_row_0, 12 + place)]
        disk = disk_after(2, base)
        states = {}
        for name, changes in changes_by_name.items():
            told = self.told(2, base + forged(disk, 1, place, {68: 1, **changes}) + [look(1)])
            states[name] = told[-1]
        return states

    def number(self, number):
        return {40 + k: byte for k, byte in enumerate(number.to_bytes(8, "little"))}

    def test_what_is_right(self):
        right = {
            "as it is": {}, "length 16": {37: 16}, "length 32": {37: 32}, "number 1": self.number(1),
            "largest number": self.number(2 ** 62), "another name": {48: 1, 67: 2}, "another share": {80: 1, 511: 2},
        }
        self.assertEqual(self.states(right), dict.fromkeys(right, [2]))

    def test_what_is_not_right(self):
        wrong = {
            "sign 0": {32: 0x52}, "sign 1": {33: 0}, "sign 2": {34: 0x33}, "sign 3": {35: 0xb2},
            "place 1": {36: 1}, "place 12": {36: 12}, "place 255": {36: 255},
            "length 0": {37: 0}, "length 15": {37: 15}, "length 17": {37: 17}, "length 64": {37: 64},
            "length 20": {37: 20}, "length 128": {37: 128},
            "first 0": {38: 1}, "second 0": {39: 128},
            "number 0": self.number(0), "number too large": self.number(2 ** 62 + 1),
            "number far too large": self.number(2 ** 63), "largest of all": self.number(2 ** 64 - 1),
            "row 0": {68: 0}, "row 2": {68: 2}, "row 257": {69: 1}, "row 65537": {70: 1}, "row high": {71: 128},
            "id first": {72: OWN[0] ^ 1}, "id last": {79: OWN[7] ^ 128},
        }
        self.assertEqual(self.states(wrong), dict.fromkeys(wrong, [0]))

    def test_the_sum_must_be_right(self):
        base = RECORD + [copy(0, 12)]
        disk = disk_after(2, base)
        ahead = base + forged(disk, 1, 0, {68: 1})
        made = disk_after(2, ahead)
        for offset in (0, 1, 16, 31):
            for change in (1, 128, 255):
                place = at(1, 0, offset)
                self.assertEqual(self.told(2, ahead + [harm(place, made[place] ^ change), look(1)])[-1], [0])

    def test_a_sector_must_be_in_its_place(self):
        for source, place in ((0, 1), (5, 0), (11, 10), (3, 4)):
            self.assertEqual(self.states({"moved": {}, "told anew": {36: place}}, source, place),
                             {"moved": [0], "told anew": [2]})

    def test_another_store_s_sectors_are_not_right(self):
        other = list(OWN)
        other[3] ^= 1
        row = disk_after(1, RECORD)
        calls = written(bytes(6144), 0, row) + [look(0), get(3400, NAME), put(16, 1, NAME, [1])]
        self.assertEqual(self.told(1, calls, other)[-3:], [[0], [-4], [0]])
        self.assertEqual(self.told(1, calls)[-2:], [TEXT, [-4]])

    def test_another_secret_finds_the_row_but_no_record(self):
        other = list(OWN)
        other[39] ^= 1
        calls = written(bytes(6144), 0, disk_after(1, RECORD)) + [look(0), get(3400, NAME)]
        told = self.told(1, calls, other)
        self.assertEqual(told[-2][:2], [1, 3])
        self.assertEqual(told[-1], [-5])

    def test_an_empty_sector_with_a_right_sum_is_not_right(self):
        calls = written(bytes(6144), 0, summed(bytes(512))) + [look(0)]
        self.assertEqual(self.told(1, calls)[-1], [0])


class CopyTest(StoreTest):
    def test_copy_answers_0_and_lays_a_sector_over_another(self):
        ahead = [harm(0, 3), harm(511, 1), harm(512, 9)]
        self.assertEqual(self.told(1, ahead + [copy(0, 11)])[-1], [0])
        self.assertEqual(self.disk_sum(1, ahead + [copy(0, 11)]),
                         [3 + 512 + 9 * 513 + 3 * (512 * 11 + 1) + 512 * 12])
        self.assertEqual(self.disk_sum(1, ahead + [copy(0, 1)]), [3 + 512 + 3 * 513 + 1024])
        self.assertEqual(self.disk_sum(1, ahead + [copy(1, 0)]), [9 + 9 * 513])

    def test_a_copy_is_a_sector_of_its_own(self):
        calls = [harm(0, 3), copy(0, 1), harm(0, 4), harm(513, 1)]
        self.assertEqual(self.disk_sum(1, calls), [4 + 3 * 513 + 514])
        self.assertEqual(self.told(1, calls), [[0]] * 4)

    def test_copy_onto_itself(self):
        for sector in (0, 7, 11):
            calls = RECORD + [copy(sector, sector), get(3, NAME)]
            self.assertEqual(self.told(1, calls)[1:], [[0], TEXT])
            self.assertEqual(self.disk_sum(1, calls), self.disk_sum(1, RECORD))

    def test_farthest_sectors(self):
        for rows in (1, 2, 3):
            last = 12 * rows - 1
            calls = [harm(512 * last, 1), copy(last, 0), copy(0, last)]
            self.assertEqual(self.told(rows, calls), [[0]] * 3)
            self.assertEqual(self.disk_sum(rows, calls), [1 + 512 * last + 1])

    def test_elsewhere_a_sector_is_not_right(self):
        for source, target in ((0, 1), (1, 0), (11, 3), (3, 11)):
            self.assertEqual(self.told(1, RECORD + spoil(0, [i for i in range(12) if i != source])
                                       + [copy(source, target), harm(at(0, source, SIGN_AT), 0), look(0)])[-1], [0])
        for place in (0, 6, 11):
            calls = RECORD + [copy(place, 12 + place), look(1), copy(place, 24 + (place + 1) % 12), look(2)]
            self.assertEqual(self.told(3, calls)[2::2], [[0], [0]])

    def test_a_row_copied_whole_is_not_right(self):
        calls = RECORD + copies(0, 1, range(12)) + [look(1), put(16, 4, OTHER, [7]), look(0)]
        told = self.told(2, calls)
        self.assertEqual(told[-3:-1], [[0], [1]])
        self.assertEqual(told[-1][:2], [1, 3])

    def test_a_sector_laid_over_is_lost(self):
        calls = list(RECORD)
        wanted = []
        for i in range(1, 6):
            calls += [copy(0, i), look(0)]
            wanted.append(1 if i < 5 else 2)
        self.assertEqual([row[0] for row in self.told(1, calls)[2::2]], wanted)

    def test_copied_back_it_is_right_again(self):
        calls = RECORD + copies(0, 1, range(8)) + [clear(0), look(0), get(3, NAME)]
        calls += copies(1, 0, range(7)) + [look(0), get(3, NAME)] + copies(1, 0, [7]) + [look(0), get(3, NAME)]
        told = self.told(2, calls)
        self.assertEqual(told[10:12], [[0], [-4]])
        self.assertEqual(told[19:21], [[2], [-4]])
        self.assertEqual(told[-2][:2], [1, 3])
        self.assertEqual(told[-1], TEXT)

    def test_an_older_record_copied_back(self):
        ahead = [put(16, 1, NAME, [1])] + copies(0, 1, range(12)) + [put(32, 2, NAME, [2])]
        for count in range(13):
            calls = ahead + copies(1, 0, range(count)) + [look(0), get(1, NAME)]
            told = self.told(2, calls)[-2:]
            if count <= 4:
                self.assertEqual((told[0][:2], told[1]), ([1, 2], [1, 2]))
            elif count < 8:
                self.assertEqual(told, [[2], [-4]])
            else:
                self.assertEqual((told[0][:2], told[1]), ([1, 1], [1, 1]))

    def test_one_head_is_asked_for_byte_by_byte(self):
        # Heads that differ in the key's length alone don't go together.
        ahead = [put(16, 1, NAME, [1])] + copies(0, 1, range(12)) + [clear(0), put(24, 1, NAME, [1])]
        for count, state in ((4, 1), (5, 2), (7, 2), (8, 1)):
            self.assertEqual(self.told(2, ahead + copies(1, 0, range(count)) + [look(0)])[-1][0], state)


if __name__ == "__main__":
    unittest.main()
