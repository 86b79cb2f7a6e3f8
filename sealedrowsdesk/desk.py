"""The calls on one store: records are put, got and dropped, and its disk is looked at, harmed and mended."""

from sealedrowsdesk.cipher import KEY_LENGTHS
from sealedrowsdesk.disk import DATA_SHARES, Disk
from sealedrowsdesk.records import MOST_TEXT, can_be_name_length, open_record, seal_record
from sealedrowsdesk.sectors import can_be_number, head_name_sum, head_number, make_head
from sealedrowsdesk.shares import chain, cut
from sealedrowsdesk.sums import sum_of
from sealedrowsdesk.words import low_first

ID_SIZE = 8


class Desk:
    """A store with its disk, its id and its secret; each call answers a row of numbers."""

    def __init__(self, row_count, own):
        self.store_id = own[:ID_SIZE]
        self.secret = own[ID_SIZE:]
        self.disk = Disk(row_count, self.store_id)

    def row_of(self, name):
        """The row of a name, or None."""
        name_sum = sum_of(1, name)
        found = None
        greatest = 0
        for row in range(self.disk.row_count):
            head = self.disk.head_of(row)
            if head is not None and head_name_sum(head) == name_sum and head_number(head) > greatest:
                found = row
                greatest = head_number(head)
        return found

    def row_for(self, name):
        """The row that a record of the name is put into, or None."""
        own_row = self.row_of(name)
        if own_row is not None:
            return own_row
        for row in range(self.disk.row_count):
            if self.disk.is_empty(row):
                return row
        return None

    def put(self, length, number, name, text):
        """A record is put into its name's row or the first empty one; that row."""
        if length not in KEY_LENGTHS or not can_be_number(number):
            return [-2]
        if not can_be_name_length(len(name)) or len(text) > MOST_TEXT:
            return [-2]
        if self.disk.greatest_number() >= number:
            return [-4]
        row = self.row_for(name)
        if row is None:
            return [-6]
        head = make_head(length, number, sum_of(1, name), row, self.store_id)
        sealed = seal_record(head, self.secret, name, text)
        self.disk.write_row(row, head, cut(sealed, DATA_SHARES, len(sealed) // DATA_SHARES))
        return [row]

    def get_text(self, most, name):
        """The text of a name: how many bytes, and they."""
        if not can_be_name_length(len(name)) or most > MOST_TEXT:
            return [-2]
        row = self.row_of(name)
        if row is None:
            return [-4]
        record = open_record(self.disk.head_of(row), self.secret, chain(self.disk.data_of(row)))
        if record is None or record[0] != name:
            return [-5]
        text = record[1]
        if len(text) > most:
            return [-7]
        return [len(text)] + text

    def drop(self, name):
        """The row of a name becomes all 0; that row."""
        if not can_be_name_length(len(name)):
            return [-2]
        row = self.row_of(name)
        if row is None:
            return [-4]
        self.disk.clear_row(row)
        return [row]

    def clear_row(self, row):
        """A row becomes all 0."""
        if row >= self.disk.row_count:
            return [-2]
        self.disk.clear_row(row)
        return [0]

    def state_of(self, row):
        """0 for an empty row, 1 for a whole one, 2 for a torn one."""
        if self.disk.is_empty(row):
            return 0
        return 2 if self.disk.head_of(row) is None else 1

    def mend(self):
        """All sectors of the whole rows are written as they should be: how many weren't; whole, torn, empty rows."""
        states = [self.state_of(row) for row in range(self.disk.row_count)]
        mended = 0
        for row in range(self.disk.row_count):
            if states[row] == 1:
                mended = mended + self.disk.write_row(row, self.disk.head_of(row), self.disk.data_of(row))
        return [mended, states.count(1), states.count(2), states.count(0)]

    def look(self, row):
        """A row's state; of a whole row also its number's bytes and its name's sum."""
        if row >= self.disk.row_count:
            return [-2]
        state = self.state_of(row)
        if state != 1:
            return [state]
        head = self.disk.head_of(row)
        return [state] + low_first(head_number(head), 8) + head_name_sum(head)

    def harm(self, at, byte):
        """One byte of the disk becomes that."""
        self.disk.set_byte(at, byte)
        return [0]

    def copy_sector(self, source, target):
        """One sector is laid over another."""
        self.disk.copy_sector(source, target)
        return [0]

    def take(self, call):
        """What one call answers, as a row: its first number says which it is."""
        which = call[0]
        if which == 0:
            name_end = 4 + call[3]
            return self.put(call[1], call[2], call[4:name_end], call[name_end:])
        if which == 1:
            return self.get_text(call[1], call[2:])
        if which == 2:
            return self.drop(call[1:])
        if which == 3:
            return self.clear_row(call[1])
        if which == 4:
            return self.mend()
        if which == 5:
            return self.look(call[1])
        if which == 6:
            return self.harm(call[1], call[2])
        return self.copy_sector(call[1], call[2])
