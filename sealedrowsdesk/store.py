"""The calls of the program; each answers a list of whole numbers and keeps nothing."""

from sealedrowsdesk.cipher import KEY_LENGTHS, decipher, encipher, expand_key, turn_keys
from sealedrowsdesk.desk import Desk
from sealedrowsdesk.pieces import Pieces
from sealedrowsdesk.sealing import TAG_LENGTH, open_text, seal_text
from sealedrowsdesk.shares import can_share, chain, cut, make_shares, tell_data
from sealedrowsdesk.sums import mark_of


def lay_out(rows):
    """The rows one behind another, each behind how many numbers it has."""
    numbers = []
    for row in rows:
        numbers.append(len(row))
        numbers.extend(row)
    return numbers


def answer(number, rows):
    """The answer of a call by itself: its number as a row of its own, then the rows of bytes."""
    return lay_out([[number]] + rows)


def keys(length, key):
    """How many rounds, the round keys and those for the way back; -2 if the length is none of a key's."""
    if length not in KEY_LENGTHS:
        return answer(-2, [])
    round_keys = expand_key(key)
    # There is one round key more than there are rounds.
    rounds = len(round_keys) // 16 - 1
    return answer(rounds, [round_keys, turn_keys(round_keys)])


def run_blocks(back, key, data):
    """The blocks of the data enciphered, or deciphered where back isn't 0."""
    round_keys = expand_key(key)
    if back != 0:
        round_keys = turn_keys(round_keys)
    done = []
    for at in range(0, len(data), 16):
        block = data[at:at + 16]
        done.extend(encipher(block, round_keys) if back == 0 else decipher(block, round_keys))
    return done


def blocks(length, back, key, data):
    """How many blocks, and they enciphered (back not 0: deciphered); -2 if the length is none of a key's."""
    if length not in KEY_LENGTHS:
        return answer(-2, [])
    return answer(len(data) // 16, [run_blocks(back, key, data)])


def seal(length, key, nonce, beside, text):
    """How many bytes, and the text sealed with its tag behind it; -2 if the length is none of a key's."""
    if length not in KEY_LENGTHS:
        return answer(-2, [])
    sealed = seal_text(key, nonce, beside, text)
    return answer(len(sealed), [sealed])


def open_sealed(length, key, nonce, beside, data):
    """How many bytes, and the text that was sealed; -2 as in seal and without room for a tag, -5 if it isn't right."""
    if length not in KEY_LENGTHS or len(data) < TAG_LENGTH:
        return answer(-2, [])
    text = open_text(key, nonce, beside, data)
    if text is None:
        return answer(-5, [])
    return answer(len(text), [text])


def pieces(calls):
    """A row for each of the calls on one object, in which nothing is under way at first: its number, what is told."""
    under_way = Pieces()
    return lay_out([under_way.take(call) for call in calls])


def mark(key, data):
    """32, and the mark of the data under the key."""
    told = mark_of(key, data)
    return answer(len(told), [told])


def make(k, m, size, data):
    """m, and the m shares more of k pieces of data; -2 if there can't be so many."""
    if not can_share(k, m):
        return answer(-2, [])
    made = make_shares(cut(data, k, size), m)
    return answer(m, [chain(made[k:])])


def mend(k, m, size, there, shares):
    """How many shares weren't there, and all of them anew; -2 as in make or for a bit too many, -5 for too few."""
    if not can_share(k, m) or there >> (k + m) != 0:
        return answer(-2, [])
    places = [place for place in range(k + m) if (there >> place) & 1]
    if len(places) < k:
        return answer(-5, [])
    data = tell_data(k, places[:k], cut(shares, k + m, size))
    return answer(k + m - len(places), [chain(make_shares(data, m))])


def store(rows, own, calls):
    """A row for each of the calls on one store, whose disk is all 0 at first; then the disk's sum as one row more."""
    desk = Desk(rows, own)
    told = [desk.take(call) for call in calls]
    return lay_out(told + [[desk.disk.weighed()]])
