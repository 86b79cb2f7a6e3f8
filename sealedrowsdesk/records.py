"""A record: a name and a text, sealed under a key of its own that the store's secret tells."""

from sealedrowsdesk.sealing import open_text, seal_text
from sealedrowsdesk.sectors import head_length, head_name_sum, head_number, head_row, head_store_id
from sealedrowsdesk.sums import mark_of, sum_of
from sealedrowsdesk.words import low_first, number_of_low_first

NAME_AT = 5
TEXT_AT = 40
MOST_NAME = 35
MOST_TEXT = 3400


def can_be_name_length(length):
    """Whether a record's name may have so many bytes."""
    return 1 <= length <= MOST_NAME


def pack(name, text):
    """The bytes of a record ahead of their sealing."""
    filled_name = name + [0] * (MOST_NAME - len(name))
    return low_first(len(text), 4) + [len(name)] + filled_name + text + [0] * (MOST_TEXT - len(text))


def unpack(packed):
    """A record's name and text, or None if these bytes are no record's."""
    text_length = number_of_low_first(packed[:4])
    name_length = packed[4]
    if text_length > MOST_TEXT or not can_be_name_length(name_length):
        return None
    name = packed[NAME_AT:NAME_AT + name_length]
    text = packed[TEXT_AT:TEXT_AT + text_length]
    # Packed again they differ only where something else than 0 fills them up.
    if pack(name, text) != packed:
        return None
    return (name, text)


def record_key(head, secret):
    """The key under which the record with this head is sealed."""
    marked = mark_of(secret, head_store_id(head) + low_first(head_number(head), 8))
    return marked[:head_length(head)]


def record_nonce(head):
    """The nonce of the record with this head."""
    return low_first(head_number(head), 8) + head_row(head)


def seal_record(head, secret, name, text):
    """The record sealed with its head."""
    return seal_text(record_key(head, secret), record_nonce(head), head, pack(name, text))


def open_record(head, secret, sealed):
    """The name and the text of the record that was sealed with its head, or None if it tells none."""
    packed = open_text(record_key(head, secret), record_nonce(head), head, sealed)
    if packed is None:
        return None
    record = unpack(packed)
    if record is None or sum_of(1, record[0]) != head_name_sum(head):
        return None
    return record
