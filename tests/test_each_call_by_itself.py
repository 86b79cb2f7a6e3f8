"""What holds of every call: nothing handed in is changed, nothing is kept, printed or imported."""

import contextlib
import copy
import io
import sys
import unittest

import samples
import store_calls
from rows import rows_of
from sealedrowsdesk.store import blocks, keys, make, mark, mend, open_sealed, pieces, seal, store


def block_calls():
    calls = []
    for length in samples.LENGTHS:
        key = samples.spread(length, length)
        calls.append((keys, (length, key)))
        for back in (0, 1, samples.GREATEST):
            for count in (0, 1, 5, 64):
                calls.append((blocks, (length, back, key, samples.spread(16 * count, count))))
    for length in samples.WRONG_LENGTHS:
        calls.append((keys, (length, [])))
        calls.append((blocks, (length, 0, [], [])))
        calls.append((blocks, (length, 1, [], samples.spread(32, 1))))
    return calls


def seal_calls():
    calls = []
    nonce = samples.spread(12, 1)
    for length, key, own_nonce, beside, text, sealed, tag in samples.gcm_examples():
        calls.append((seal, (length, key, own_nonce, beside, text)))
        calls.append((open_sealed, (length, key, own_nonce, beside, sealed + tag)))
        calls.append((open_sealed, (length, key, nonce, beside, sealed + tag)))
        calls.append((open_sealed, (length, key, nonce, beside, tag[1:])))
    for size in (1, 17, 600):
        calls.append((seal, (16, samples.spread(16, 2), nonce, samples.spread(size, 3), samples.spread(size, 4))))
    for length in samples.WRONG_LENGTHS:
        calls.append((seal, (length, [], nonce, [1], [2])))
        calls.append((open_sealed, (length, [], nonce, [1], [2])))
    return calls


def sum_calls():
    calls = [(mark, (samples.spread(size, 1), samples.spread(3 * size, 2))) for size in (0, 1, 64, 65, 200)]
    for kind in (1, 2):
        calls.append((pieces, ([[4, kind], [5] + samples.spread(70, 1), [6], [4, 0], [5], [5, 1], [6]],)))
    return calls


def piece_calls():
    calls = [(pieces, ([],)), (pieces, ([[1, 2], [2, 3], [3], [5, 6], [6], [0, 15, 1], [4, 3]],))]
    for length, key, nonce, beside, text, sealed, tag in samples.gcm_examples():
        for back in (0, 1):
            begin = [0, length, back] + key + nonce
            ahead = [begin, [1] + beside[:7], [1] + beside[7:]]
            calls.append((pieces, (ahead + [[2] + text[:5], [2] + text[5:], [1, 1], [3], [3]],)))
            calls.append((pieces, (ahead + [[4, 2], begin, [3]],)))
    return calls


def share_calls():
    calls = [(make, (0, 1, 5, [])), (mend, (33, 1, 5, 1, []))]
    calls += [(mend, (1, 1, 1, there, [1, 2])) for there in (4, 0)]
    for k, m in ((1, 0), (1, 3), (3, 2), (8, 4), (16, 16)):
        for size in (0, 1, 7):
            calls.append((make, (k, m, size, samples.spread(k * size, k))))
            for there in ((1 << k) - 1, (1 << (k + m)) - 1, ((1 << k) - 1) << m):
                calls.append((mend, (k, m, size, there, samples.spread((k + m) * size, m))))
    return calls


def line_calls():
    name = store_calls.NAME
    text = samples.spread(30, 1)
    calls = [store_calls.put(24, 1, name, text), store_calls.get(30, name), store_calls.harm(100, 1)]
    calls += store_calls.spoil(0, (2, 5)) + [store_calls.copy(0, 1), store_calls.look(0), store_calls.MEND]
    calls += [store_calls.get(29, name), store_calls.get(3401, name), store_calls.put(24, 1, name, text)]
    more = [store_calls.put(17, 1, name, []), store_calls.look(5), store_calls.clear(5), store_calls.drop(name)]
    own = store_calls.OWN
    return [
        (store, (1, own, [])), (store, (1, own, calls + more + [store_calls.clear(0)])), (store, (3, own, calls)),
        (store, (2, own, more)),
    ]


def calls_by_themselves():
    return block_calls() + seal_calls() + share_calls() + [each for each in sum_calls() if each[0] == mark]


def tried_calls():
    return block_calls() + seal_calls() + share_calls() + sum_calls() + piece_calls() + line_calls()


class WatchedList(list):
    """A list that tells if it's changed, be it for a while."""

    def changed(self, *values):
        raise AssertionError("what was handed in was changed")

    append = extend = insert = pop = remove = clear = sort = reverse = changed
    __setitem__ = __delitem__ = __iadd__ = __imul__ = changed


def watched(value):
    return WatchedList(map(watched, value)) if isinstance(value, list) else value


class EachCallByItselfTest(unittest.TestCase):
    def test_what_is_handed_in_is_as_it_was(self):
        for call, values in tried_calls():
            before = copy.deepcopy(values)
            call(*values)
            self.assertEqual(values, before)

    def test_what_is_handed_in_is_not_changed_for_a_while_either(self):
        for call, values in tried_calls():
            self.assertEqual(call(*[watched(value) for value in values]), call(*values))

    def test_a_second_call_answers_the_same(self):
        calls = tried_calls()
        first = [call(*values) for call, values in calls]
        again = [call(*values) for call, values in calls]
        turned = [call(*values) for call, values in reversed(calls)]
        self.assertEqual(again, first)
        self.assertEqual(turned[::-1], first)

    def test_changing_an_answer_changes_no_later_one(self):
        for call, values in tried_calls():
            before = copy.deepcopy(values)
            answer = call(*values)
            kept = list(answer)
            answer.clear()
            self.assertEqual(values, before)
            self.assertEqual(call(*values), kept)

    def test_answers_are_lists_of_whole_numbers(self):
        for call, values in tried_calls():
            answer = call(*values)
            self.assertIs(type(answer), list)
            self.assertTrue(all(type(number) is int for number in answer))

    def test_calls_by_themselves_answer_a_number_and_rows_of_bytes(self):
        for call, values in calls_by_themselves():
            rows = rows_of(call(*values))
            self.assertEqual(len(rows[0]), 1)
            self.assertEqual(rows[0][0] < 0, len(rows) == 1)
            for row in rows[1:]:
                self.assertTrue(all(0 <= byte <= 255 for byte in row))

    def test_pieces_answer_a_row_for_each_call(self):
        for call, values in piece_calls() + sum_calls():
            if call == pieces:
                rows = rows_of(pieces(*values))
                self.assertEqual(len(rows), len(values[0]))
                for row in rows:
                    self.assertEqual(len(row) - 1, max(row[0], 0))
                    self.assertTrue(all(0 <= byte <= 255 for byte in row[1:]))

    def test_store_answers_a_row_for_each_call_and_one_more(self):
        for call, values in line_calls():
            rows = rows_of(store(*values))
            self.assertEqual(len(rows), len(values[2]) + 1)
            self.assertEqual(len(rows[-1]), 1)
            self.assertTrue(0 <= rows[-1][0] < 2 ** 32)
            for row in rows:
                self.assertTrue(len(row) == 1 or row[0] >= 0)

    def test_nothing_is_printed_or_imported(self):
        modules = set(sys.modules)
        out = io.StringIO()
        with contextlib.redirect_stdout(out), contextlib.redirect_stderr(out):
            for call, values in tried_calls():
                call(*values)
        self.assertEqual(out.getvalue(), "")
        self.assertEqual(set(sys.modules), modules)

    def test_arguments_go_by_the_names_of_the_interface(self):
        key = list(range(16))
        self.assertEqual(keys(length=16, key=key), keys(16, key))
        named = blocks(length=16, back=0, key=key, data=samples.PLAIN)
        self.assertEqual(named, [1, 1, 16] + samples.ENCIPHERED[16])
        for length, key, nonce, beside, text, sealed, tag in samples.gcm_examples():
            named = seal(length=length, key=key, nonce=nonce, beside=beside, text=text)
            self.assertEqual(named[3:], sealed + tag)
            named = open_sealed(length=length, key=key, nonce=nonce, beside=beside, data=sealed + tag)
            self.assertEqual(named[3:], text)
        self.assertEqual(mark(key=[1], data=[2]), mark([1], [2]))
        self.assertEqual(pieces(calls=[[4, 1], [6]]), pieces([[4, 1], [6]]))
        self.assertEqual(store(rows=1, own=store_calls.OWN, calls=[[5, 0]]), [1, 0, 1, 0])
        self.assertEqual(make(k=2, m=1, size=1, data=[1, 0]), [1, 1, 1, 0x8d])
        self.assertEqual(mend(k=2, m=1, size=1, there=6, shares=[9, 0, 0x8d]), [1, 1, 3, 1, 0, 0x8d])


if __name__ == "__main__":
    unittest.main()
