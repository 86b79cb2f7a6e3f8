"""What holds of every call: nothing handed in is changed, nothing is kept, printed or imported."""

import contextlib
import copy
import io
import sys
import unittest

import samples
from sealedrowsdesk.store import blocks, keys, open_sealed, seal


def block_calls():
    calls = []
    for length in samples.LENGTHS:
        key = samples.spread(length, length)
        calls.append((keys, (length, key)))
        for back in (0, 1, samples.GREATEST):
            for count in (0, 1, 5, 64):
                calls.append((blocks, (length, back, key, samples.spread(16 * count, count))))
    for length in samples.WRONG_LENGTHS:
        calls.append((keys, (length, [])))
        calls.append((blocks, (length, 0, [], [])))
        calls.append((blocks, (length, 1, [], samples.spread(32, 1))))
    return calls


def seal_calls():
    calls = []
    nonce = samples.spread(12, 1)
    for length, key, own_nonce, beside, text, sealed, tag in samples.gcm_examples():
        calls.append((seal, (length, key, own_nonce, beside, text)))
        calls.append((open_sealed, (length, key, own_nonce, beside, sealed + tag)))
        calls.append((open_sealed, (length, key, nonce, beside, sealed + tag)))
        calls.append((open_sealed, (length, key, nonce, beside, tag[1:])))
    for size in (1, 17, 600):
        calls.append((seal, (16, samples.spread(16, 2), nonce, samples.spread(size, 3), samples.spread(size, 4))))
    for length in samples.WRONG_LENGTHS:
        calls.append((seal, (length, [], nonce, [1], [2])))
        calls.append((open_sealed, (length, [], nonce, [1], [2])))
    return calls


def tried_calls():
    return block_calls() + seal_calls()


class WatchedList(list):
    """A list that tells if it's changed, be it for a while."""

    def changed(self, *values):
        raise AssertionError("what was handed in was changed")

    append = extend = insert = pop = remove = clear = sort = reverse = changed
    __setitem__ = __delitem__ = __iadd__ = __imul__ = changed


def watched(value):
    return WatchedList(value) if isinstance(value, list) else value


class EachCallByItselfTest(unittest.TestCase):
    def test_what_is_handed_in_is_as_it_was(self):
        for call, values in tried_calls():
            before = copy.deepcopy(values)
            call(*values)
            self.assertEqual(values, before)

    def test_what_is_handed_in_is_not_changed_for_a_while_either(self):
        for call, values in tried_calls():
            self.assertEqual(call(*[watched(value) for value in values]), call(*values))

    def test_a_second_call_answers_the_same(self):
        calls = tried_calls()
        first = [call(*values) for call, values in calls]
        again = [call(*values) for call, values in calls]
        turned = [call(*values) for call, values in reversed(calls)]
        self.assertEqual(again, first)
        self.assertEqual(turned[::-1], first)

    def test_changing_an_answer_changes_no_later_one(self):
        for call, values in tried_calls():
            before = copy.deepcopy(values)
            answer = call(*values)
            kept = list(answer)
            answer.clear()
            self.assertEqual(values, before)
            self.assertEqual(call(*values), kept)

    def test_answers_are_lists_of_whole_numbers(self):
        for call, values in tried_calls():
            answer = call(*values)
            self.assertIs(type(answer), list)
            self.assertEqual({type(number) for number in answer}, {int})

    def test_all_bytes_told_are_from_0_to_255(self):
        for call, values in tried_calls():
            answer = call(*values)
            at = 2
            while at < len(answer):
                row = answer[at + 1:at + 1 + answer[at]]
                self.assertEqual(len(row), answer[at])
                self.assertTrue(all(0 <= byte <= 255 for byte in row))
                at += 1 + answer[at]

    def test_nothing_is_printed_or_imported(self):
        modules = set(sys.modules)
        out = io.StringIO()
        with contextlib.redirect_stdout(out), contextlib.redirect_stderr(out):
            for call, values in tried_calls():
                call(*values)
        self.assertEqual(out.getvalue(), "")
        self.assertEqual(set(sys.modules), modules)

    def test_arguments_go_by_the_names_of_the_interface(self):
        key = list(range(16))
        self.assertEqual(keys(length=16, key=key), keys(16, key))
        named = blocks(length=16, back=0, key=key, data=samples.PLAIN)
        self.assertEqual(named, [1, 1, 16] + samples.ENCIPHERED[16])
        for length, key, nonce, beside, text, sealed, tag in samples.gcm_examples():
            named = seal(length=length, key=key, nonce=nonce, beside=beside, text=text)
            self.assertEqual(named[3:], sealed + tag)
            named = open_sealed(length=length, key=key, nonce=nonce, beside=beside, data=sealed + tag)
            self.assertEqual(named[3:], text)


if __name__ == "__main__":
    unittest.main()
