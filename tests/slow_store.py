"""The store once more, straight from the words and on one run of bytes, without the program, to compare with."""

import hashlib
import hmac

import textbook

LENGTHS = (16, 24, 32)
SIGN = bytes.fromhex("53593232")


def sha1(data):
    return hashlib.sha1(bytes(data)).digest()


def sha256(data):
    return hashlib.sha256(bytes(data)).digest()


def low(number, count):
    return number.to_bytes(count, "little")


def number_of(data):
    return int.from_bytes(data, "little")


def head_for(length, number, name, row, store_id):
    return bytes([length, 0, 0]) + low(number, 8) + sha1(name) + low(row, 4) + store_id


def sector_for(i, head, share):
    behind = SIGN + bytes([i]) + head + bytes(share)
    return sha256(behind) + behind


def record_of(name, text):
    return low(len(text), 4) + bytes([len(name)]) + bytes(name).ljust(35, b"\0") + bytes(text).ljust(3400, b"\0")


def key_and_nonce(head, secret):
    number = head[3:11]
    marked = hmac.new(secret, head[35:43] + number, hashlib.sha256).digest()
    return list(marked[:head[0]]), list(number + head[31:35])


def shares_for(data):
    return list(data) + textbook.more_shares(8, 4, 432, data)


def row_for(head, secret, name, text):
    """A row's bytes, as put writes them."""
    key, nonce = key_and_nonce(head, secret)
    shares = shares_for(textbook.sealed(key, nonce, list(head), list(record_of(name, text))))
    return b"".join(sector_for(i, head, shares[432 * i:432 * i + 432]) for i in range(12))


class SlowStore:
    def __init__(self, rows, own):
        self.rows = rows
        self.id = bytes(own[:8])
        self.secret = bytes(own[8:])
        self.disk = bytearray(6144 * rows)

    def sector(self, row, i):
        return bytes(self.disk[6144 * row + 512 * i:6144 * row + 512 * i + 512])

    def right(self, row, i):
        one = self.sector(row, i)
        return (
            one[:32] == sha256(one[32:]) and one[32:36] == SIGN and one[36] == i and one[37] in LENGTHS
            and one[38:40] == b"\0\0" and 1 <= number_of(one[40:48]) <= 2 ** 62
            and number_of(one[68:72]) == row and one[72:80] == self.id
        )

    def right_heads(self, row):
        """The heads of the right sectors, by their places."""
        return {i: self.sector(row, i)[37:80] for i in range(12) if self.right(row, i)}

    def head(self, row):
        heads = list(self.right_heads(row).values())
        return next((head for head in heads if heads.count(head) >= 8), None)

    def state(self, row):
        if not self.right_heads(row):
            return 0
        return 2 if self.head(row) is None else 1

    def data(self, row):
        places = [i for i, head in self.right_heads(row).items() if head == self.head(row)][:8]
        return textbook.told_data(8, {i: self.sector(row, i)[80:] for i in places})

    def record(self, row):
        head = self.head(row)
        key, nonce = key_and_nonce(head, self.secret)
        opened = textbook.opened(key, nonce, list(head), self.data(row))
        if opened is None:
            return None
        packed = bytes(opened)
        text_length, name_length = number_of(packed[:4]), packed[4]
        if text_length > 3400 or not 1 <= name_length <= 35:
            return None
        name, text = packed[5:5 + name_length], packed[40:40 + text_length]
        if any(packed[5 + name_length:40]) or any(packed[40 + text_length:]) or sha1(name) != head[11:31]:
            return None
        return list(name), list(text)

    def name_row(self, name):
        found = []
        for row in range(self.rows):
            head = self.head(row)
            if head is not None and head[11:31] == sha1(name):
                found.append((-number_of(head[3:11]), row))
        return min(found)[1] if found else None

    def put(self, length, number, name, text):
        if length not in LENGTHS or not 1 <= number <= 2 ** 62 or not 1 <= len(name) <= 35 or len(text) > 3400:
            return [-2]
        for row in range(self.rows):
            if any(number_of(head[3:11]) >= number for head in self.right_heads(row).values()):
                return [-4]
        row = self.name_row(name)
        if row is None:
            row = next((each for each in range(self.rows) if self.state(each) == 0), None)
        if row is None:
            return [-6]
        head = head_for(length, number, name, row, self.id)
        self.disk[6144 * row:6144 * row + 6144] = row_for(head, self.secret, name, text)
        return [row]

    def get(self, most, name):
        if not 1 <= len(name) <= 35 or most > 3400:
            return [-2]
        row = self.name_row(name)
        if row is None:
            return [-4]
        record = self.record(row)
        if record is None or record[0] != name:
            return [-5]
        if len(record[1]) > most:
            return [-7]
        return [len(record[1])] + record[1]

    def drop(self, name):
        if not 1 <= len(name) <= 35:
            return [-2]
        row = self.name_row(name)
        if row is None:
            return [-4]
        self.clear(row)
        return [row]

    def clear(self, row):
        if row >= self.rows:
            return [-2]
        self.disk[6144 * row:6144 * row + 6144] = bytes(6144)
        return [0]

    def mend(self):
        states = [self.state(row) for row in range(self.rows)]
        changed = 0
        for row in range(self.rows):
            if states[row] == 1:
                head, shares = self.head(row), shares_for(self.data(row))
                for i in range(12):
                    wanted = sector_for(i, head, shares[432 * i:432 * i + 432])
                    changed += self.sector(row, i) != wanted
                    self.disk[6144 * row + 512 * i:6144 * row + 512 * i + 512] = wanted
        return [changed] + [states.count(state) for state in (1, 2, 0)]

    def look(self, row):
        if row >= self.rows:
            return [-2]
        state = self.state(row)
        return [1] + list(self.head(row)[3:31]) if state == 1 else [state]

    def harm(self, place, byte):
        self.disk[place] = byte
        return [0]

    def copy(self, source, target):
        self.disk[512 * target:512 * target + 512] = self.disk[512 * source:512 * source + 512]
        return [0]

    def take(self, call):
        which, rest = call[0], call[1:]
        if which == 0:
            return self.put(rest[0], rest[1], rest[3:3 + rest[2]], rest[3 + rest[2]:])
        if which == 1:
            return self.get(rest[0], rest[1:])
        if which == 2:
            return self.drop(rest)
        return {3: self.clear, 4: self.mend, 5: self.look, 6: self.harm, 7: self.copy}[which](*rest)

    def weighed(self):
        return sum((i + 1) * byte for i, byte in enumerate(self.disk)) % 2 ** 32


def answered(rows, own, calls):
    """The rows of the answer."""
    slow = SlowStore(rows, own)
    return [slow.take(call) for call in calls] + [[slow.weighed()]]
