"""One craft, and its way through a tick."""

from courseheld.keeping import keeping_row
from courseheld.plain import plain_row
from courseheld.scheme import RECORD_SIZE
from courseheld.turn import Turn


class Craft:
    """What a craft keeps from tick to tick: by block its signal, its s and its t, all 0 at first."""

    def __init__(self, blocks):
        self.signals = [0] * blocks
        self.firsts = [0] * blocks
        self.seconds = [0] * blocks


def row_of(what):
    """What a block of the row does in its turn."""
    row = plain_row(what)
    return keeping_row(what) if row is None else row


def tick_of(craft, blocks, came):
    """Take the craft through a tick with the record that came in; the record that goes out."""
    goes = [0] * RECORD_SIZE
    for i, block in enumerate(blocks):
        turn = Turn(block, craft, i, came, goes)
        row = row_of(block.what)
        craft.signals[i] = row(turn)
        craft.firsts[i] = turn.s
        craft.seconds[i] = turn.t
    return goes
