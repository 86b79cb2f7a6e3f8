"""AES (FIPS 197), GCM (SP 800-38D) and shares from their definitions, slowly, without the program, to compare with."""

import functools


@functools.lru_cache(None)
def times(a, b):
    product = 0
    for bit in range(8):
        if b >> bit & 1:
            product ^= a << bit
    for bit in range(14, 7, -1):
        if product >> bit & 1:
            product ^= 0b100011011 << (bit - 8)
    return product


def substituted(byte):
    inverse = next((other for other in range(256) if times(byte, other) == 1), 0)
    bits = [inverse >> i & 1 for i in range(8)]
    out = 0
    for i in range(8):
        bit = bits[i] ^ bits[(i + 4) % 8] ^ bits[(i + 5) % 8] ^ bits[(i + 6) % 8] ^ bits[(i + 7) % 8]
        out |= (bit ^ (0x63 >> i & 1)) << i
    return out


SBOX = [substituted(byte) for byte in range(256)]
FORWARD = (2, 3, 1, 1)
BACKWARD = (14, 11, 13, 9)


def mixed(block, factors):
    out = []
    for column in range(4):
        for row in range(4):
            total = 0
            for k in range(4):
                total ^= times(factors[(k - row) % 4], block[4 * column + k])
            out.append(total)
    return out


def shifted(block, way):
    return [block[4 * ((column + way * row) % 4) + row] for column in range(4) for row in range(4)]


def added(block, key):
    return [a ^ b for a, b in zip(block, key, strict=True)]


def round_keys(key):
    """A list of round keys, each a list of 16 bytes."""
    return round_keys_once(tuple(key))


@functools.lru_cache(100)
def round_keys_once(key):
    nk = len(key) // 4
    words = [list(key[4 * i:4 * i + 4]) for i in range(nk)]
    constants = (0, 0x01, 0x02, 0x04, 0x08, 0x10, 0x20, 0x40, 0x80, 0x1b, 0x36)
    for i in range(nk, 4 * (nk + 7)):
        word = list(words[i - 1])
        if i % nk == 0:
            word = [SBOX[word[1]] ^ constants[i // nk], SBOX[word[2]], SBOX[word[3]], SBOX[word[0]]]
        elif nk > 6 and i % nk == 4:
            word = [SBOX[byte] for byte in word]
        words.append(added(words[i - nk], word))
    return [sum(words[i:i + 4], []) for i in range(0, len(words), 4)]


def way_back_keys(key):
    forward = round_keys(key)
    return [forward[-1]] + [mixed(one, BACKWARD) for one in forward[-2:0:-1]] + [forward[0]]


def enciphered(key, block):
    return list(enciphered_once(tuple(key), tuple(block)))


@functools.lru_cache(200000)
def enciphered_once(key, block):
    keys = round_keys(key)
    state = added(block, keys[0])
    for one in keys[1:-1]:
        state = added(mixed(shifted([SBOX[byte] for byte in state], 1), FORWARD), one)
    return added(shifted([SBOX[byte] for byte in state], 1), keys[-1])


def deciphered(key, block):
    """The plain inverse: each step of enciphered undone, the last first, with its own round keys."""
    keys = round_keys(key)
    state = [SBOX.index(byte) for byte in shifted(added(block, keys[-1]), -1)]
    for one in keys[-2:0:-1]:
        state = [SBOX.index(byte) for byte in shifted(mixed(added(state, one), BACKWARD), -1)]
    return added(state, keys[0])


def polynomial(block):
    """The block as a polynomial over two values: bit i is the coefficient of x^i, the block's i-th bit."""
    bits = "".join(format(byte, "08b") for byte in block)
    return int(bits[::-1], 2)


def block_times(a, b):
    product = 0
    for bit in range(128):
        if b >> bit & 1:
            product ^= a << bit
    modulus = 1 << 128 | 1 << 7 | 1 << 2 | 1 << 1 | 1
    for bit in range(254, 127, -1):
        if product >> bit & 1:
            product ^= modulus << bit - 128
    return product


def filled(data):
    return data + [0] * (-len(data) % 16)


def sealed(key, nonce, beside, text):
    """The text sealed and the tag behind it, by the formulas of SP 800-38D, 7.1."""
    first = nonce + [0, 0, 0, 1]
    stream = []
    for count in range(2, 2 + (len(text) + 15) // 16):
        stream += enciphered(key, nonce + list(count.to_bytes(4, "big")))
    done = [a ^ b for a, b in zip(text, stream)]
    lengths = list((8 * len(beside)).to_bytes(8, "big")) + list((8 * len(text)).to_bytes(8, "big"))
    held = filled(beside) + filled(done) + lengths
    factor = polynomial(enciphered(key, [0] * 16))
    total = 0
    for at in range(0, len(held), 16):
        total = block_times(total ^ polynomial(held[at:at + 16]), factor)
    bits = format(total, "0128b")[::-1]
    tag = [int(bits[at:at + 8], 2) for at in range(0, 128, 8)]
    return done + added(tag, enciphered(key, first))


def opened(key, nonce, beside, data):
    """The text of what was sealed, or None if its tag isn't right."""
    # Sealing what's sealed undoes the stream; only then the tag can be compared.
    text = sealed(key, nonce, beside, data[:-16])[:-16]
    return text if sealed(key, nonce, beside, text) == data else None


def inverted(byte):
    return next(other for other in range(256) if times(byte, other) == 1)


INVERSES = [0] + [inverted(byte) for byte in range(1, 256)]


def more_shares(k, m, size, data):
    """The m shares behind k pieces of data, one behind another, byte by byte."""
    out = []
    for i in range(m):
        for at in range(size):
            total = 0
            for j in range(k):
                total ^= times(data[j * size + at], INVERSES[k + i ^ j])
            out.append(total)
    return out


def told_data(k, shares):
    """The data, from a dict of k shares by their places, by elimination with a search for each pivot."""
    rows = []
    for place, share in shares.items():
        if place < k:
            rows.append([int(j == place) for j in range(k)] + list(share))
        else:
            rows.append([INVERSES[place ^ j] for j in range(k)] + list(share))
    for column in range(k):
        pivot = next(at for at in range(column, k) if rows[at][column])
        rows[column], rows[pivot] = rows[pivot], rows[column]
        scale = INVERSES[rows[column][column]]
        rows[column] = [times(scale, byte) for byte in rows[column]]
        for at in range(k):
            factor = rows[at][column]
            if at != column and factor:
                rows[at] = [byte ^ times(factor, other) for byte, other in zip(rows[at], rows[column])]
    return [byte for row in rows for byte in row[k:]]
