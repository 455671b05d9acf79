"""A block's turn in a tick: what it takes and what it keeps."""

from courseheld.grains import to_kind
from courseheld.scheme import KEPT


class Turn:
    """One block's turn in a tick of one craft: its numbers taken, its old signal, its s and t, the records."""

    def __init__(self, block, craft, i, came, goes):
        self.block = block
        self.kind = block.kind
        self.p = block.p
        self.q = block.q
        self.r = block.r
        self.old = craft.signals[i]
        self.s = craft.firsts[i]
        self.t = craft.seconds[i]
        self.came = came
        self.goes = goes
        taken = numbers_taken(block, craft)
        self.a = taken[0]
        self.b = taken[1]
        self.c = taken[2]


def numbers_taken(block, craft):
    """The numbers that the block takes as a, b, c, rounded to its kind; 0 for those it takes none for."""
    there = craft.firsts if block.what == KEPT else craft.signals
    taken = [to_kind(block.kind, there[source]) for source in block.sources]
    return taken + [0] * (3 - len(taken))
