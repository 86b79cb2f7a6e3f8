"""The sums of FIPS 180-4, of kind 1 SHA-1 and of kind 2 SHA-256, and the mark of RFC 2104 with the latter."""

from sealedrowsdesk.words import bytes_of, number_of

KINDS = (1, 2)
BLOCK = 64
MASK = 0xffffffff

START_1 = (0x67452301, 0xefcdab89, 0x98badcfe, 0x10325476, 0xc3d2e1f0)
START_2 = (
    0x6a09e667, 0xbb67ae85, 0x3c6ef372, 0xa54ff53a, 0x510e527f, 0x9b05688c, 0x1f83d9ab, 0x5be0cd19,
)

CONSTANTS_1 = (0x5a827999, 0x6ed9eba1, 0x8f1bbcdc, 0xca62c1d6)
CONSTANTS_2 = (
    0x428a2f98, 0x71374491, 0xb5c0fbcf, 0xe9b5dba5, 0x3956c25b, 0x59f111f1, 0x923f82a4, 0xab1c5ed5,
    0xd807aa98, 0x12835b01, 0x243185be, 0x550c7dc3, 0x72be5d74, 0x80deb1fe, 0x9bdc06a7, 0xc19bf174,
    0xe49b69c1, 0xefbe4786, 0x0fc19dc6, 0x240ca1cc, 0x2de92c6f, 0x4a7484aa, 0x5cb0a9dc, 0x76f988da,
    0x983e5152, 0xa831c66d, 0xb00327c8, 0xbf597fc7, 0xc6e00bf3, 0xd5a79147, 0x06ca6351, 0x14292967,
    0x27b70a85, 0x2e1b2138, 0x4d2c6dfc, 0x53380d13, 0x650a7354, 0x766a0abb, 0x81c2c92e, 0x92722c85,
    0xa2bfe8a1, 0xa81a664b, 0xc24b8b70, 0xc76c51a3, 0xd192e819, 0xd6990624, 0xf40e3585, 0x106aa070,
    0x19a4c116, 0x1e376c08, 0x2748774c, 0x34b0bcb5, 0x391c0cb3, 0x4ed8aa4a, 0x5b9cca4f, 0x682e6ff3,
    0x748f82ee, 0x78a5636f, 0x84c87814, 0x8cc70208, 0x90befffa, 0xa4506ceb, 0xbef9a3f7, 0xc67178f2,
)


def turn_left(word, count):
    """A word of 32 bits turned to the left."""
    return ((word << count) | (word >> (32 - count))) & MASK


def turn_thrice(word, first, second, third):
    """The exclusive or of a word of 32 bits turned to the right by three counts."""
    # Behind the same word once more, a turn is a mere shift.
    twice = (word << 32) | word
    return ((twice >> first) ^ (twice >> second) ^ (twice >> third)) & MASK


def turn_and_shift(word, first, second, shift):
    """The exclusive or of a word of 32 bits turned to the right by two counts and shifted by a third."""
    twice = (word << 32) | word
    return ((twice >> first) ^ (twice >> second) ^ (word >> shift)) & MASK


def words_of(block):
    """A block's words of 32 bits."""
    return [number_of(block[at:at + 4]) for at in range(0, len(block), 4)]


def spread_block_1(block):
    """The 80 words that a block of SHA-1 is spread out to."""
    words = words_of(block)
    for at in range(16, 80):
        words.append(turn_left(words[at - 3] ^ words[at - 8] ^ words[at - 14] ^ words[at - 16], 1))
    return words


def choose_1(at, b, c, d):
    """What SHA-1 makes of three words in the round at a place."""
    if at < 20:
        return d ^ (b & (c ^ d))
    if 40 <= at < 60:
        return (b & c) | (d & (b | c))
    return b ^ c ^ d


def add_block_1(state, block):
    """The state of SHA-1 after one more block of 64 bytes."""
    words = spread_block_1(block)
    a = state[0]
    b = state[1]
    c = state[2]
    d = state[3]
    e = state[4]
    for at in range(80):
        step = turn_left(a, 5) + choose_1(at, b, c, d) + e + CONSTANTS_1[at // 20] + words[at]
        e = d
        d = c
        c = turn_left(b, 30)
        b = a
        a = step & MASK
    return [(was + now) & MASK for was, now in zip(state, [a, b, c, d, e])]


def spread_block_2(block):
    """The 64 words that a block of SHA-256 is spread out to."""
    words = words_of(block)
    for at in range(16, 64):
        early = turn_and_shift(words[at - 15], 7, 18, 3)
        late = turn_and_shift(words[at - 2], 17, 19, 10)
        words.append((words[at - 16] + early + words[at - 7] + late) & MASK)
    return words


def add_block_2(state, block):
    """The state of SHA-256 after one more block of 64 bytes."""
    words = spread_block_2(block)
    a = state[0]
    b = state[1]
    c = state[2]
    d = state[3]
    e = state[4]
    f = state[5]
    g = state[6]
    h = state[7]
    for at in range(64):
        step = h + turn_thrice(e, 6, 11, 25) + (g ^ (e & (f ^ g))) + CONSTANTS_2[at] + words[at]
        other = turn_thrice(a, 2, 13, 22) + ((a & b) | (c & (a | b)))
        h = g
        g = f
        f = e
        e = (d + step) & MASK
        d = c
        c = b
        b = a
        a = (step + other) & MASK
    return [(was + now) & MASK for was, now in zip(state, [a, b, c, d, e, f, g, h])]


def add_blocks(kind, state, data):
    """The state of a kind after the data, which is whole blocks."""
    for at in range(0, len(data), BLOCK):
        block = data[at:at + BLOCK]
        state = add_block_1(state, block) if kind == 1 else add_block_2(state, block)
    return state


class Summing:
    """A sum of a kind under way."""

    def __init__(self, kind):
        self.kind = kind
        self.state = list(START_1) if kind == 1 else list(START_2)
        self.waiting = []
        self.summed_length = 0

    def add(self, data):
        """The sum goes on by these bytes; those that fill no block wait for more."""
        waiting = self.waiting + data
        whole = len(waiting) - len(waiting) % BLOCK
        self.state = add_blocks(self.kind, self.state, waiting[:whole])
        self.waiting = waiting[whole:]
        self.summed_length = self.summed_length + len(data)

    def told(self):
        """The sum so far; it may go on behind this."""
        gap = [0x80] + [0] * (-(self.summed_length + 9) % BLOCK)
        ending = self.waiting + gap + bytes_of(8 * self.summed_length, 8)
        told = []
        for word in add_blocks(self.kind, self.state, ending):
            told.extend(bytes_of(word, 4))
        return told


def sum_of(kind, data):
    """The sum of a kind of the data."""
    summing = Summing(kind)
    summing.add(data)
    return summing.told()


def mark_of(key, data):
    """The mark of the data under a key of any length: 32 bytes."""
    short = sum_of(2, key) if len(key) > BLOCK else list(key)
    full = short + [0] * (BLOCK - len(short))
    inner = sum_of(2, [byte ^ 0x36 for byte in full] + data)
    return sum_of(2, [byte ^ 0x5c for byte in full] + inner)
