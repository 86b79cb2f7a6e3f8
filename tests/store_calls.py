"""The store's calls by name, and a test case that asks the store and the slow one beside it."""

import hashlib
import unittest

import samples
import slow_store
from rows import rows_of
from sealedrowsdesk.store import store

OWN = samples.spread(40, 2026)
SIGN_BYTE = 0x53
SIGN_AT = 32
LARGEST = 2 ** 62
NAME = [110, 97, 109, 101]
OTHER = [111, 116, 104, 101, 114]
THIRD = [51]
FOURTH = [52]
MEND = [4]


def put(length, number, name, text):
    return [0, length, number, len(name)] + name + text


def get(most, name):
    return [1, most] + name


def drop(name):
    return [2] + name


def clear(row):
    return [3, row]


def look(row):
    return [5, row]


def harm(place, byte):
    return [6, place, byte]


def copy(source, target):
    return [7, source, target]


def at(row, i, offset):
    """The place on the disk of a byte of a sector."""
    return 6144 * row + 512 * i + offset


def spoil(row, places):
    """Calls by which the sectors at these places of a row are no longer right."""
    return [harm(at(row, i, SIGN_AT), 0) for i in places]


def heal(row, places):
    """Calls that undo spoil."""
    return [harm(at(row, i, SIGN_AT), SIGN_BYTE) for i in places]


def copies(from_row, to_row, places):
    """Calls that lay a row's sectors over another's, each at its own place."""
    return [copy(12 * from_row + i, 12 * to_row + i) for i in places]


def written(disk, place, data):
    """Calls that make the bytes of the disk from a place on these."""
    calls = [harm(place + k, byte) for k, byte in enumerate(data) if disk[place + k] != byte]
    # Sectors whose key's length is still wrong are found wrong soonest, so these bytes come last.
    return sorted(calls, key=lambda call: call[1] % 512 == 37)


def summed(sector):
    """The sector with its sum made right."""
    behind = bytes(sector[32:])
    return hashlib.sha256(behind).digest() + behind


def forged(disk, row, i, changes):
    """Calls that change bytes of a sector, told by their offsets, and make its sum right again."""
    sector = bytearray(disk[at(row, i, 0):at(row, i, 512)])
    for offset, byte in changes.items():
        sector[offset] = byte
    return written(disk, at(row, i, 0), summed(sector))


def disk_after(rows, calls, own=OWN):
    """The disk's bytes after the calls, by the slow store."""
    slow = slow_store.SlowStore(rows, own)
    for call in calls:
        slow.take(call)
    return slow.disk


class StoreTest(unittest.TestCase):
    def told(self, rows, calls, own=OWN):
        """The rows of the answer but the last, once the slow store has answered the same and the same sum."""
        answer = rows_of(store(rows, own, calls))
        self.assertEqual(len(answer), len(calls) + 1)
        self.assertEqual(answer, slow_store.answered(rows, own, calls))
        return answer[:-1]

    def disk_sum(self, rows, calls, own=OWN):
        return rows_of(store(rows, own, calls))[-1]

    def assert_refused_without_change(self, rows, ahead, calls, number):
        """The calls are all refused with that number, and the disk's sum is as it was."""
        self.assertEqual(self.told(rows, ahead + calls)[len(ahead):], [[number]] * len(calls))
        self.assertEqual(self.disk_sum(rows, ahead + calls), self.disk_sum(rows, ahead))
