"""A sector's bytes: its sum, a sign, its place in the row, its head and a share."""

from sealedrowsdesk.cipher import KEY_LENGTHS
from sealedrowsdesk.sums import sum_of
from sealedrowsdesk.words import low_first, number_of_low_first

SECTOR_SIZE = 512
HEAD_AT = 37
SHARE_AT = 80
SIGN = (0x53, 0x59, 0x32, 0x32)
GREATEST_NUMBER = 0x4000000000000000


def make_head(length, number, name_sum, row, store_id):
    """The head of a record's sectors, from a key's length to the store's id."""
    return [length, 0, 0] + low_first(number, 8) + name_sum + low_first(row, 4) + store_id


def head_length(head):
    """The key's length in a head."""
    return head[0]


def head_number(head):
    """The record's number in a head."""
    return number_of_low_first(head[3:11])


def head_name_sum(head):
    """The sum of the record's name in a head."""
    return head[11:31]


def head_row(head):
    """The row in a head, as its bytes."""
    return head[31:35]


def head_store_id(head):
    """The store's id in a head."""
    return head[35:]


def can_be_number(number):
    """Whether a record may have this number."""
    return 1 <= number <= GREATEST_NUMBER


def can_be_head(head, row, store_id):
    """Whether a sector in this row of this store may have that head."""
    if head_length(head) not in KEY_LENGTHS or not can_be_number(head_number(head)):
        return False
    return head == make_head(head_length(head), head_number(head), head_name_sum(head), row, store_id)


def make_sector(place, head, share):
    """The sector at a place in a row."""
    behind = list(SIGN) + [place] + head + share
    return sum_of(2, behind) + behind


def share_of(sector):
    """The share in a sector."""
    return sector[SHARE_AT:]


def right_head(sector, row, place, store_id):
    """The sector's head, if the sector is right at that place in that row of that store; else None."""
    head = sector[HEAD_AT:SHARE_AT]
    # The head is looked at first, since a sum takes long.
    if can_be_head(head, row, store_id) and sector == make_sector(place, head, share_of(sector)):
        return head
    return None
