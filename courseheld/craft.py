"""One craft, its way through a tick, and what's told of it and put into it."""

from courseheld.grains import from_double, one, to_double, to_kind
from courseheld.keeping import keeping_row
from courseheld.plain import plain_row
from courseheld.scheme import KALMAN, RECORD_SIZE, RELAY
from courseheld.turn import Turn


class Craft:
    """What a craft keeps: by block its signal, its s and its t, all 0 at first, and what signals were seen."""

    def __init__(self, blocks):
        self.signals = [0] * blocks
        self.firsts = [0] * blocks
        self.seconds = [0] * blocks
        # Nothing is seen ahead of the first tick; then by block its least signal and its greatest.
        self.ticked = False
        self.least = []
        self.most = []


def row_of(what):
    """What a block of the row does in its turn."""
    row = plain_row(what)
    return keeping_row(what) if row is None else row


def tick_of(craft, blocks, came):
    """Take the craft through a tick with the record that came in; the record that goes out."""
    goes = [0] * RECORD_SIZE
    for i, block in enumerate(blocks):
        turn = Turn(block, craft, i, came, goes)
        row = row_of(block.what)
        craft.signals[i] = row(turn)
        craft.firsts[i] = turn.s
        craft.seconds[i] = turn.t
    see(craft)
    return goes


def see(craft):
    """Take the signals behind a tick among those seen."""
    if craft.ticked:
        craft.least = [min(low, signal) for low, signal in zip(craft.least, craft.signals)]
        craft.most = [max(high, signal) for high, signal in zip(craft.most, craft.signals)]
    else:
        craft.ticked = True
        craft.least = list(craft.signals)
        craft.most = list(craft.signals)


def state_of(craft):
    """The doubles that tell each block's signal, s and t."""
    doubles = []
    for signal, s, t in zip(craft.signals, craft.firsts, craft.seconds):
        doubles.extend([to_double(signal), to_double(s), to_double(t)])
    return doubles


def state_as_told(block, state):
    """Whether the signal, s and t that are put are such as the block may have."""
    if any([to_kind(block.kind, number) != number for number in state]):
        return False
    if block.what == RELAY:
        return state[0] in (0, one())
    if block.what == KALMAN:
        return state[1] >= 0
    return True


def craft_put(blocks, doubles):
    """A craft with the signals, s and t that the doubles tell, None if they aren't as told."""
    numbers = [from_double(bits) for bits in doubles]
    if None in numbers:
        return None
    craft = Craft(len(blocks))
    for i, block in enumerate(blocks):
        state = numbers[3 * i:3 * i + 3]
        if not state_as_told(block, state):
            return None
        craft.signals[i] = state[0]
        craft.firsts[i] = state[1]
        craft.seconds[i] = state[2]
    return craft
