"""pieces, the calls sum, add and told (point 4)."""

import hashlib
import unittest

import samples
from rows import laid_out, rows_of
from sealedrowsdesk.store import pieces

LONG = b"abcdbcdecdefdefgefghfghighijhijkijkljklmklmnlmnomnopnopq"
# FIPS 180-4's examples, and no bytes: the kind, the bytes, the sum.
EXAMPLES = (
    (1, b"abc", "a9993e364706816aba3e25717850c26c9cd0d89d"),
    (1, LONG, "84983e441c3bd26ebaae4aa1f95129e5e54670f1"),
    (1, b"", "da39a3ee5e6b4b0d3255bfef95601890afd80709"),
    (2, b"abc", "ba7816bf8f01cfea414140de5dae2223b00361a396177a9cb410ff61f20015ad"),
    (2, LONG, "248d6a61d20638b8e5c026930c3e6039a33ce45964ff2167f6ecedd419db06c1"),
    (2, b"", "e3b0c44298fc1c149afbf4c8996fb92427ae41e4649b934ca495991b7852b855"),
)
SIZES = (0, 1, 2, 3, 4, 54, 55, 56, 57, 62, 63, 64, 65, 118, 119, 120, 121, 127, 128, 129, 183, 184, 191, 192, 402)
WRONG_KINDS = (0, 3, 4, 255, 256, 257, 258, 2 ** 32 + 1, 2 ** 32 + 2, 2 ** 63, samples.GREATEST)
BEGIN = [0, 16, 0] + [0] * 16 + [0] * 12


def sum_row(kind, data):
    told = list((hashlib.sha1 if kind == 1 else hashlib.sha256)(bytes(data)).digest())
    return [len(told)] + told


class SumsTest(unittest.TestCase):
    def test_examples_of_fips_180_4(self):
        for kind, data, told in EXAMPLES:
            size = 20 if kind == 1 else 32
            wanted = [1, 0, 1, 0, size + 1, size] + list(bytes.fromhex(told))
            self.assertEqual(pieces([[4, kind], [5] + list(data), [6]]), wanted)

    def test_whole_answer_written_out(self):
        told = [169, 153, 62, 54, 71, 6, 129, 106, 186, 62, 37, 113, 120, 80, 194, 108, 156, 208, 216, 157]
        self.assertEqual(pieces([[4, 1], [5, 97, 98, 99], [6]]), [1, 0, 1, 0, 21, 20] + told)

    def test_sizes(self):
        for kind in (1, 2):
            for size in SIZES:
                for data in (samples.spread(size, size + kind), [0] * size, [255] * size):
                    rows = rows_of(pieces([[4, kind], [5] + data, [6]]))
                    self.assertEqual(rows, [[0], [0], sum_row(kind, data)])

    def test_nothing_added(self):
        for kind in (1, 2):
            self.assertEqual(rows_of(pieces([[4, kind], [6]])), [[0], sum_row(kind, [])])
            self.assertEqual(rows_of(pieces([[4, kind], [5], [5], [6]])), [[0], [0], [0], sum_row(kind, [])])

    def test_pieces_tell_the_same_as_one(self):
        for kind in (1, 2):
            for size in SIZES:
                data = samples.spread(size, size)
                for step in (1, 3, 55, 56, 63, 64, 65, 128):
                    if size > 38 * step:
                        continue
                    cut = [[5] + data[at:at + step] for at in range(0, size, step)]
                    rows = rows_of(pieces([[4, kind]] + cut + [[6]]))
                    self.assertEqual(rows, [[0]] * (len(cut) + 1) + [sum_row(kind, data)])

    def test_empty_pieces_between(self):
        for kind in (1, 2):
            data = samples.spread(200, kind)
            calls = [[4, kind], [5], [5] + data[:64], [5], [5] + data[64:70], [5], [5] + data[70:], [5], [6]]
            self.assertEqual(rows_of(pieces(calls)), [[0]] * 8 + [sum_row(kind, data)])

    def test_told_twice_and_between(self):
        for kind in (1, 2):
            calls = [[4, kind], [6], [6]]
            wanted = [[0], sum_row(kind, []), sum_row(kind, [])]
            so_far = []
            for size in (1, 54, 1, 7, 1, 56, 60, 120):
                data = samples.spread(size, size + 9)
                so_far = so_far + data
                calls += [[5] + data, [6], [6]]
                wanted += [[0], sum_row(kind, so_far), sum_row(kind, so_far)]
            self.assertEqual(rows_of(pieces(calls)), wanted)

    def test_as_many_numbers_as_may_be(self):
        for kind in (1, 2):
            data = samples.spread(1991, kind)
            cut = [[5] + data[at:at + 402] for at in range(0, 1991, 402)]
            calls = [[4, kind]] + cut + [[6]]
            self.assertEqual(sum(len(call) for call in calls), 1999)
            self.assertEqual(rows_of(pieces(calls))[-1], sum_row(kind, data))

    def test_other_kinds_are_refused_and_what_was_under_way_goes_on(self):
        for wrong in WRONG_KINDS:
            self.assertEqual(pieces([[4, wrong]]), [1, -2])
            self.assertEqual(rows_of(pieces([[4, wrong], [5, 1], [6]])), [[-2], [-4], [-4]])
            for kind in (1, 2):
                calls = [[4, kind], [5, 1, 2], [4, wrong], [5, 3], [4, wrong], [6]]
                wanted = [[0], [0], [-2], [0], [-2], sum_row(kind, [1, 2, 3])]
                self.assertEqual(rows_of(pieces(calls)), wanted)

    def test_a_sum_begins_instead_of_another(self):
        for first in (1, 2):
            for second in (1, 2):
                calls = [[4, first], [5, 1, 2], [4, second], [6], [5, 3], [6]]
                wanted = [[0], [0], [0], sum_row(second, []), [0], sum_row(second, [3])]
                self.assertEqual(rows_of(pieces(calls)), wanted)

    def test_a_sum_begins_instead_of_a_sealing(self):
        for kind in (1, 2):
            for between in ([], [[1, 1]], [[1, 1], [2, 2]]):
                rows = rows_of(pieces([BEGIN] + between + [[4, kind], [1, 1], [2, 1], [3], [5, 9], [6]]))
                self.assertEqual(rows[1 + len(between):], [[0], [-4], [-4], [-4], [0], sum_row(kind, [9])])

    def test_add_and_told_without_a_sum_are_refused(self):
        self.assertEqual(pieces([[5, 1]]), [1, -4])
        self.assertEqual(pieces([[5]]), [1, -4])
        self.assertEqual(pieces([[6]]), [1, -4])
        self.assertEqual(rows_of(pieces([BEGIN, [5, 1], [6], [5], [6]])), [[0], [-4], [-4], [-4], [-4]])
        self.assertEqual(rows_of(pieces([BEGIN, [3], [5, 1], [6]]))[2:], [[-4], [-4]])

    def test_a_sum_is_gone_once_a_sealing_began(self):
        for kind in (1, 2):
            rows = rows_of(pieces([[4, kind], [5, 1], BEGIN, [5, 2], [6], [3], [5, 3], [6]]))
            self.assertEqual(rows[:5] + rows[6:], [[0], [0], [0], [-4], [-4], [-4], [-4]])

    def test_refused_calls_of_sealing_leave_a_sum_as_it_was(self):
        for kind in (1, 2):
            calls = [[4, kind], [5, 1], [1, 7], [2, 8], [3], [0, 15, 0], [5, 2], [6], [1], [2], [6]]
            told = sum_row(kind, [1, 2])
            wanted = [[0], [0], [-4], [-4], [-4], [-2], [0], told, [-4], [-4], told]
            self.assertEqual(rows_of(pieces(calls)), wanted)

    def test_no_call_and_40_calls(self):
        self.assertEqual(pieces([]), [])
        calls = [[4, 2]] + [[5, at] for at in range(38)] + [[6]]
        wanted = [[0]] * 39 + [sum_row(2, list(range(38)))]
        self.assertEqual(len(calls), 40)
        self.assertEqual(pieces(calls), laid_out(wanted))


if __name__ == "__main__":
    unittest.main()
