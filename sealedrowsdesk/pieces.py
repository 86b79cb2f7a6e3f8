"""The calls by which a text is sealed or opened, or a sum is made, in pieces."""

from sealedrowsdesk.cipher import KEY_LENGTHS
from sealedrowsdesk.sealing import Sealing
from sealedrowsdesk.sums import KINDS, Summing


class Pieces:
    """The object that the calls work on: a sealing is under way, or a sum, or nothing."""

    def __init__(self):
        self.sealing = None
        self.summing = None

    def begin(self, length, back, rest):
        """A sealing begins, or where back isn't 0 an opening; the rest is the key and the nonce."""
        if length not in KEY_LENGTHS:
            return [-2]
        self.sealing = Sealing(rest[:length], rest[length:], back != 0)
        self.summing = None
        return [0]

    def go_with(self, data):
        """What goes with the text goes on."""
        if self.sealing is None or self.sealing.text_begun:
            return [-4]
        self.sealing.take_beside(data)
        return [0]

    def more(self, data):
        """The text goes on, or in an opening what's sealed."""
        if self.sealing is None:
            return [-4]
        run = self.sealing.take_text(data)
        return [len(run)] + run

    def end(self):
        """The tag; nothing is under way then."""
        if self.sealing is None:
            return [-4]
        tag = self.sealing.tag()
        self.sealing = None
        return [len(tag)] + tag

    def begin_sum(self, kind):
        """A sum of a kind begins."""
        if kind not in KINDS:
            return [-2]
        self.summing = Summing(kind)
        self.sealing = None
        return [0]

    def go_on_sum(self, data):
        """The sum goes on."""
        if self.summing is None:
            return [-4]
        self.summing.add(data)
        return [0]

    def tell_sum(self):
        """The sum so far, which stays under way."""
        if self.summing is None:
            return [-4]
        told = self.summing.told()
        return [len(told)] + told

    def take(self, call):
        """What one call answers, as a row: its first number says which it is."""
        which = call[0]
        if which == 0:
            return self.begin(call[1], call[2], call[3:])
        if which == 1:
            return self.go_with(call[1:])
        if which == 2:
            return self.more(call[1:])
        if which == 3:
            return self.end()
        if which == 4:
            return self.begin_sum(call[1])
        if which == 5:
            return self.go_on_sum(call[1:])
        return self.tell_sum()
