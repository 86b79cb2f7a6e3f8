"""pieces, the calls begin, with, more and end (point 3)."""

import hashlib
import unittest

import samples
import textbook
from rows import laid_out, rows_of
from sealedrowsdesk.store import pieces, seal

BACKS = (1, 2, 255, 256, 2 ** 32, 2 ** 63, samples.GREATEST)
STEPS = (1, 2, 5, 15, 16, 17, 31, 32, 33, 48, 400)


def begin(back, key, nonce):
    return [0, len(key), back] + key + nonce


def cut(which, data, step):
    return [[which] + data[at:at + step] for at in range(0, len(data), step)]


def told(data):
    return [len(data)] + data


def run(back, key, nonce, besides, texts):
    """What the pieces of text become, and the tag."""
    rows = rows_of(pieces([begin(back, key, nonce)] + besides + texts + [[3]]))
    if rows[:1 + len(besides)] != [[0]] * (1 + len(besides)):
        raise AssertionError("begin or with did not answer 0")
    out = []
    for call, row in zip(texts, rows[1 + len(besides):-1], strict=True):
        if row[0] != len(row) - 1 or row[0] != len(call) - 1:
            raise AssertionError("more did not answer as many bytes as went in")
        out += row[1:]
    if rows[-1][0] != 16 or len(rows[-1]) != 17:
        raise AssertionError("end did not answer 16 bytes")
    return out, rows[-1][1:]


class SealingTest(unittest.TestCase):
    def key_and_nonce(self, length):
        return samples.spread(length, 7), samples.spread(12, length)

    def test_published_examples(self):
        for length, key, nonce, beside, text, sealed, tag in samples.gcm_examples():
            calls = [begin(0, key, nonce), [1] + beside, [2] + text, [3]]
            wanted = [1, 0, 1, 0, 1 + len(text), len(text)] + sealed + [17, 16] + tag
            self.assertEqual(pieces(calls), wanted)
            for back in BACKS:
                calls = [begin(back, key, nonce), [1] + beside, [2] + sealed, [3]]
                wanted = [1, 0, 1, 0, 1 + len(text), len(text)] + text + [17, 16] + tag
                self.assertEqual(pieces(calls), wanted)

    def test_whole_answer_written_out(self):
        block = [3, 136, 218, 206, 96, 182, 163, 146, 243, 40, 194, 185, 113, 178, 254, 120]
        tag = [171, 110, 71, 212, 44, 236, 19, 189, 245, 58, 103, 178, 18, 87, 189, 223]
        calls = [[0, 16, 0] + [0] * 28, [2, 0, 0, 0], [2], [2] + [0] * 13, [3], [3]]
        wanted = [1, 0, 4, 3] + block[:3] + [1, 0, 14, 13] + block[3:] + [17, 16] + tag + [1, -4]
        self.assertEqual(pieces(calls), wanted)

    def test_however_it_is_cut_it_is_as_seal_gives_it(self):
        for length in samples.LENGTHS:
            key, nonce = self.key_and_nonce(length)
            for step in STEPS:
                for beside_size, size in ((0, 0), (0, 37), (37, 0), (1, 1), (20, 36), (16, 32), (33, 65), (300, 350)):
                    if beside_size // step + size // step > 34:
                        continue
                    beside = samples.spread(beside_size, size)
                    text = samples.spread(size, step)
                    wanted = textbook.sealed(key, nonce, beside, text)
                    self.assertEqual(seal(length, key, nonce, beside, text)[3:], wanted)
                    there = run(0, key, nonce, cut(1, beside, step), cut(2, text, step))
                    self.assertEqual(there, (wanted[:-16], wanted[-16:]))
                    back = run(1, key, nonce, cut(1, beside, step), cut(2, wanted[:-16], step))
                    self.assertEqual(back, (text, wanted[-16:]))

    def test_pieces_of_uneven_sizes(self):
        for seed in range(40):
            length = samples.LENGTHS[seed % 3]
            key, nonce = self.key_and_nonce(length)
            sizes = [size % 41 for size in samples.spread(24, seed)]
            besides = [samples.spread(size, seed) for size in sizes[:10]]
            texts = [samples.spread(size, seed + 1) for size in sizes[10:]]
            beside, text = sum(besides, []), sum(texts, [])
            wanted = textbook.sealed(key, nonce, beside, text)
            answer = run(0, key, nonce, [[1] + part for part in besides], [[2] + part for part in texts])
            self.assertEqual(answer, (wanted[:-16], wanted[-16:]))
            ends = [sum(sizes[10:10 + count]) for count in range(len(texts) + 1)]
            sealed = [wanted[first:last] for first, last in zip(ends, ends[1:])]
            answer = run(9, key, nonce, [[1] + part for part in besides], [[2] + part for part in sealed])
            self.assertEqual(answer, (text, wanted[-16:]))

    def test_empty_pieces(self):
        for length in samples.LENGTHS:
            key, nonce = self.key_and_nonce(length)
            beside, text = samples.spread(20, 1), samples.spread(21, 2)
            wanted = textbook.sealed(key, nonce, beside, text)
            besides = [[1], [1] + beside[:3], [1], [1] + beside[3:], [1]]
            texts = [[2], [2], [2] + text[:5], [2], [2] + text[5:16], [2], [2] + text[16:], [2]]
            self.assertEqual(run(0, key, nonce, besides, texts), (wanted[:-16], wanted[-16:]))

    def test_end_without_text(self):
        for length in samples.LENGTHS:
            key, nonce = self.key_and_nonce(length)
            for beside in ([], [5], samples.spread(16, 1), samples.spread(40, 2)):
                tag = textbook.sealed(key, nonce, beside, [])
                for back in (0, 1):
                    for texts in ([], [[2]], [[2], [2]]):
                        self.assertEqual(run(back, key, nonce, cut(1, beside, 9), texts), ([], tag))
        key, nonce = self.key_and_nonce(16)
        tag = textbook.sealed(key, nonce, [], [])
        self.assertEqual(pieces([begin(0, key, nonce), [3]]), [1, 0, 17, 16] + tag)

    def test_with_behind_a_more_is_refused_and_changes_nothing(self):
        for length in samples.LENGTHS:
            key, nonce = self.key_and_nonce(length)
            beside, text = samples.spread(18, 1), samples.spread(21, 2)
            wanted = textbook.sealed(key, nonce, beside, text)
            for first in (0, 1, 5, 16, 21):
                calls = [begin(0, key, nonce), [1] + beside, [2] + text[:first], [1, 1, 2], [1], [2] + text[first:]]
                calls += [[1, 3], [3], [1]]
                rows = [[0], [0], told(wanted[:first]), [-4], [-4], told(wanted[first:-16])]
                rows += [[-4], told(wanted[-16:]), [-4]]
                self.assertEqual(rows_of(pieces(calls)), rows)

    def test_with_behind_an_empty_more_is_refused(self):
        key, nonce = self.key_and_nonce(16)
        tag = textbook.sealed(key, nonce, [4], [])
        for back in (0, 1):
            calls = [begin(back, key, nonce), [1, 4], [2], [1, 5], [1], [3]]
            self.assertEqual(rows_of(pieces(calls)), [[0], [0], [0], [-4], [-4], told(tag)])

    def test_a_new_begin_takes_with_again(self):
        key, nonce = self.key_and_nonce(24)
        tag = textbook.sealed(key, nonce, [4], [])
        calls = [begin(0, key, nonce), [2, 1, 2, 3], begin(0, key, nonce), [1, 4], [3]]
        self.assertEqual(rows_of(pieces(calls))[2:], [[0], [0], told(tag)])

    def test_a_sealing_begins_instead_of_another(self):
        first, second = samples.spread(16, 1), samples.spread(32, 2)
        nonce, other = samples.spread(12, 3), samples.spread(12, 4)
        text = samples.spread(19, 5)
        wanted = textbook.sealed(second, other, [8], text)
        ahead = [[], [[1, 1]], [[1, 1], [2, 2]], [[2] + text]]
        for between in ahead:
            for back in (0, 1):
                calls = [begin(back, first, nonce)] + between + [begin(0, second, other), [1, 8], [2] + text, [3]]
                rows = rows_of(pieces(calls))[-4:]
                self.assertEqual(rows, [[0], [0], told(wanted[:-16]), told(wanted[-16:])])
                calls = [begin(back, first, nonce)] + between
                calls += [begin(1, second, other), [1, 8], [2] + wanted[:-16], [3]]
                rows = rows_of(pieces(calls))[-4:]
                self.assertEqual(rows, [[0], [0], told(text), told(wanted[-16:])])

    def test_a_sealing_begins_instead_of_a_sum(self):
        key, nonce = self.key_and_nonce(32)
        wanted = textbook.sealed(key, nonce, [], [1, 2])
        rows = rows_of(pieces([[4, 1], [5, 1], begin(0, key, nonce), [2, 1, 2], [3], [6], [5, 1]]))
        self.assertEqual(rows, [[0], [0], [0], told(wanted[:2]), told(wanted[2:]), [-4], [-4]])

    def test_other_lengths_are_refused_and_what_was_under_way_goes_on(self):
        key, nonce = self.key_and_nonce(16)
        beside, text = samples.spread(5, 1), samples.spread(9, 2)
        wanted = textbook.sealed(key, nonce, beside, text)
        digest = list(hashlib.sha256(bytes([1, 2])).digest())
        for length in samples.WRONG_LENGTHS:
            for back in (0, 1, samples.GREATEST):
                wrong = [0, length, back]
                self.assertEqual(pieces([wrong]), [1, -2])
                self.assertEqual(rows_of(pieces([wrong, [1], [2], [3]])), [[-2], [-4], [-4], [-4]])
                calls = [begin(0, key, nonce), wrong, [1] + beside, wrong, [2] + text, wrong, [3], wrong]
                rows = [[0], [-2], [0], [-2], told(wanted[:-16]), [-2], told(wanted[-16:]), [-2]]
                self.assertEqual(rows_of(pieces(calls)), rows)
                rows = [[0], [0], [-2], [0], told(digest)]
                self.assertEqual(rows_of(pieces([[4, 2], [5, 1], wrong, [5, 2], [6]])), rows)

    def test_other_kinds_of_sum_leave_a_sealing_as_it_was(self):
        key, nonce = self.key_and_nonce(16)
        wanted = textbook.sealed(key, nonce, [1], [2, 3])
        for wrong in (0, 3, samples.GREATEST):
            calls = [begin(0, key, nonce), [4, wrong], [1, 1], [5, 1], [2, 2], [4, wrong], [6], [2, 3], [3]]
            rows = [[0], [-2], [0], [-4], told(wanted[:1]), [-2], [-4], told(wanted[1:2]), told(wanted[2:])]
            self.assertEqual(rows_of(pieces(calls)), rows)

    def test_without_a_sealing_all_are_refused(self):
        for data in ([], [1], samples.spread(400, 1)):
            self.assertEqual(pieces([[1] + data]), [1, -4])
            self.assertEqual(pieces([[2] + data]), [1, -4])
        self.assertEqual(pieces([[3]]), [1, -4])
        for kind in (1, 2):
            rows = rows_of(pieces([[4, kind], [1, 1], [2, 1], [3], [1], [2]]))
            self.assertEqual(rows, [[0], [-4], [-4], [-4], [-4], [-4]])

    def test_behind_end_nothing_is_under_way(self):
        key, nonce = self.key_and_nonce(16)
        for ahead in ([], [[1, 1]], [[2, 1]]):
            calls = [begin(0, key, nonce)] + ahead + [[3], [3], [1, 1], [2, 1], [1], [2], [5, 1], [6]]
            self.assertEqual(rows_of(pieces(calls))[-7:], [[-4]] * 7)

    def test_one_after_another(self):
        calls = []
        rows = []
        for length in samples.LENGTHS:
            key, nonce = self.key_and_nonce(length)
            wanted = textbook.sealed(key, nonce, [length], [1, 2])
            calls += [begin(0, key, nonce), [1, length], [2, 1, 2], [3]]
            rows += [[0], [0], told(wanted[:2]), told(wanted[2:])]
        self.assertEqual(pieces(calls), laid_out(rows))

    def test_no_call_and_40_calls(self):
        self.assertEqual(pieces([]), [])
        key, nonce = self.key_and_nonce(32)
        text = samples.spread(36 * 50, 1)
        wanted = textbook.sealed(key, nonce, samples.spread(50, 2), text)
        calls = [begin(0, key, nonce)] + [[1] + samples.spread(50, 2), [1]] + cut(2, text, 50) + [[3]]
        self.assertEqual(len(calls), 40)
        rows = [[0], [0], [0]] + [told(wanted[at:at + 50]) for at in range(0, 1800, 50)] + [told(wanted[-16:])]
        self.assertEqual(pieces(calls), laid_out(rows))


if __name__ == "__main__":
    unittest.main()
