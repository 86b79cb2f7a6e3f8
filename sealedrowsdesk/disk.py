"""The disk: rows of twelve sectors, and what its right sectors say of a row."""

from sealedrowsdesk.sectors import SECTOR_SIZE, head_number, make_sector, right_head, share_of
from sealedrowsdesk.shares import make_shares, tell_data

ROW_SIZE = 12
DATA_SHARES = 8
MORE_SHARES = 4
SUM_RANGE = 0x100000000


class Disk:
    """The sectors of a disk, and beside each its head where it's right, else None."""

    def __init__(self, row_count, store_id):
        self.row_count = row_count
        self.store_id = store_id
        self.sectors = [[0] * SECTOR_SIZE for place in range(ROW_SIZE * row_count)]
        # A sector of 0s is never right. Heads are told when a sector is laid down, since to tell one takes long.
        self.heads = [None] * (ROW_SIZE * row_count)

    def lay_sector(self, at, sector):
        """The sector becomes that one of the whole disk."""
        self.sectors[at] = sector
        self.heads[at] = right_head(sector, at // ROW_SIZE, at % ROW_SIZE, self.store_id)

    def copy_sector(self, source, target):
        """One sector is laid over another."""
        self.lay_sector(target, list(self.sectors[source]))

    def set_byte(self, at, byte):
        """One byte of the whole disk becomes that."""
        sector = list(self.sectors[at // SECTOR_SIZE])
        sector[at % SECTOR_SIZE] = byte
        self.lay_sector(at // SECTOR_SIZE, sector)

    def clear_row(self, row):
        """A row becomes all 0."""
        for at in range(ROW_SIZE * row, ROW_SIZE * row + ROW_SIZE):
            self.lay_sector(at, [0] * SECTOR_SIZE)

    def write_row(self, row, head, data):
        """A row becomes the sectors of a head and of eight pieces of data; how many weren't so already."""
        shares = make_shares(data, MORE_SHARES)
        changed = 0
        for place in range(ROW_SIZE):
            sector = make_sector(place, head, shares[place])
            if self.sectors[ROW_SIZE * row + place] != sector:
                self.lay_sector(ROW_SIZE * row + place, sector)
                changed = changed + 1
        return changed

    def heads_of(self, row):
        """The heads in a row, None for a sector that isn't right."""
        return self.heads[ROW_SIZE * row:ROW_SIZE * row + ROW_SIZE]

    def is_empty(self, row):
        """Whether none of the row's sectors is right."""
        return self.heads_of(row).count(None) == ROW_SIZE

    def head_of(self, row):
        """The head of a whole row, else None."""
        heads = self.heads_of(row)
        for head in heads:
            if head is not None and heads.count(head) >= DATA_SHARES:
                return head
        return None

    def data_of(self, row):
        """The eight pieces of data that a whole row's first eight sectors with its head tell."""
        head = self.head_of(row)
        heads = self.heads_of(row)
        places = [place for place in range(ROW_SIZE) if heads[place] == head]
        shares = [share_of(self.sectors[ROW_SIZE * row + place]) for place in range(ROW_SIZE)]
        return tell_data(DATA_SHARES, places[:DATA_SHARES], shares)

    def greatest_number(self):
        """The greatest number of all right sectors, or 0 if there is none."""
        return max([head_number(head) for head in self.heads if head is not None], default=0)

    def weighed(self):
        """The disk's sum: of all places, from 1, each times its byte."""
        total = 0
        weight = 0
        for sector in self.sectors:
            for byte in sector:
                weight = weight + 1
                total = total + weight * byte
        return total % SUM_RANGE
