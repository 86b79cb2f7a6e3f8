"""store, many calls on one disk: against the slow store, and in reasonable time."""

import random
import time
import unittest

from rows import rows_of
from sealedrowsdesk.store import store
from store_calls import MEND, NAME, OTHER, OWN, THIRD, StoreTest, clear, copy, drop, get, harm, look, put, spoil

OFFSETS = (0, 31, 32, 36, 37, 38, 40, 47, 48, 68, 72, 79, 80, 511)


class Calls:
    """Calls without a pattern, the same for the same seed."""

    def __init__(self, seed):
        self.random = random.Random(seed)
        self.rows = self.random.randint(1, 3)
        self.own = self.some_bytes(40)
        self.names = [self.some_bytes(self.random.choice((1, 4, 35))) for _ in range(self.random.randint(1, 4))]
        self.number = 1

    def some_bytes(self, count):
        return [self.random.randrange(256) for _ in range(count)]

    def name(self):
        if self.random.random() < 0.03:
            return self.some_bytes(self.random.choice((0, 36, 40)))
        return self.random.choice(self.names)

    def some_put(self):
        number = self.number + self.random.choice((-1, 0, 1, 1, 1, 300))
        if self.random.random() < 0.05:
            number = self.random.choice((0, 2 ** 62, 2 ** 62 + 1, 2 ** 64 - 1))
        else:
            self.number = max(number, self.number)
        length = self.random.choice((16, 24, 32, 16, 24, 32, 17))
        return [put(length, max(number, 0), self.name(), self.some_bytes(self.random.choice((0, 1, 9, 350))))]

    def some_get(self):
        return [get(self.random.choice((0, 9, 3400, 3400, 3400, 3401)), self.name())]

    def some_harm(self):
        row = self.random.randrange(self.rows)
        places = self.random.sample(range(12), self.random.choice((1, 1, 2, 3, 4, 5)))
        offset = self.random.choice(OFFSETS)
        byte = self.random.choice((0, 1, 0x53, 255))
        return [harm(6144 * row + 512 * i + offset, byte) for i in places]

    def some_copy(self):
        if self.random.random() < 0.5:
            return [copy(self.random.randrange(12 * self.rows), self.random.randrange(12 * self.rows))]
        source, target = self.random.randrange(self.rows), self.random.randrange(self.rows)
        first = self.random.randrange(12)
        return [copy(12 * source + i, 12 * target + i) for i in range(first, min(12, first + 8))]

    def some_other(self):
        row = self.random.choice((0, 1, 2, self.rows, 2 ** 64 - 1))
        return [self.random.choice((drop(self.name()), clear(row), look(row), look(row % self.rows), look(row)))]

    def all(self):
        calls = []
        heavy = 0
        while len(calls) < 32:
            which = self.random.choice((self.some_put, self.some_get, lambda: [MEND], self.some_harm, self.some_copy,
                                        self.some_other, self.some_other))
            more = which()
            heavy += more[0][0] in (0, 1, 4)
            if heavy <= 12 or more[0][0] not in (0, 1, 4):
                calls += more
        return calls[:40]


class WholeTest(StoreTest):
    def test_many_calls_as_the_slow_store_answers_them(self):
        for seed in range(60):
            made = Calls(seed)
            self.told(made.rows, made.all(), made.own)

    def test_a_line_of_40_calls_in_reasonable_time(self):
        calls = [put(32, 1 + k, name, [k] * 300) for k, name in enumerate((NAME, OTHER, THIRD))]
        for row in range(3):
            calls += spoil(row, (0, 1, 2, 3))
        calls += [get(3400, NAME), get(3400, OTHER), get(3400, THIRD), MEND]
        calls += spoil(1, (8, 9, 10, 11)) + [look(row) for row in range(3)] + [MEND, put(32, 9, OTHER, [1])]
        calls += [harm(place, 1) for place in (1000, 8000, 15000)] + [MEND, get(9, OTHER), get(3400, THIRD)]
        calls += [look(row) for row in range(3)] + [drop(NAME), clear(2), look(2)]
        self.assertEqual(len(calls), 40)
        self.assertEqual(sum(call[0] in (0, 1, 4) for call in calls), 12)
        start = time.monotonic()
        answer = rows_of(store(3, OWN, calls))
        self.assertLess(time.monotonic() - start, 20)
        self.assertEqual(answer[15:19], [[300] + [0] * 300, [300] + [1] * 300, [300] + [2] * 300, [12, 3, 0, 0]])
        self.assertEqual(self.told(3, calls), answer[:-1])

    def test_a_line_of_300_calls(self):
        calls = [put(16, 1, NAME, [7])]
        for k in range(298):
            calls.append(look(k % 3) if k % 3 else harm(6144 + k, k % 256))
        calls.append(get(1, NAME))
        self.assertEqual(self.told(3, calls)[-1], [1, 7])

    def test_each_line_begins_with_an_empty_disk(self):
        self.assertEqual(self.told(1, [put(16, 1, NAME, [7]), look(0)])[1][0], 1)
        self.assertEqual(self.told(1, [look(0), get(1, NAME), put(16, 1, NAME, [7])]), [[0], [-4], [0]])


if __name__ == "__main__":
    unittest.main()
