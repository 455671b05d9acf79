"""A store: one scheme, a fleet of craft, and the calls on them."""

from courseheld.craft import Craft, craft_put, state_of, tick_of
from courseheld.grains import to_double
from courseheld.refusals import no_scheme, not_as_told, not_in_scheme, out_of_range
from courseheld.scheme import MOST_BLOCKS, RECORD_SIZE, told_scheme

MOST_CRAFT = 64
MOST_TICKS = 4096


def record_at(records, i):
    """The i-th of the records that stand one behind another."""
    return records[RECORD_SIZE * i:RECORD_SIZE * (i + 1)]


class Store:
    """One scheme and a fleet; each call answers the list of its numbers."""

    def __init__(self):
        self.blocks = None
        self.crafts = [Craft(0)]

    def begin(self):
        """The call open: no scheme, one craft."""
        self.blocks = None
        self.crafts = [Craft(0)]
        return [0]

    def build(self, n, numbers, doubles):
        """The scheme of n blocks; every craft is as at first."""
        if not 1 <= n <= MOST_BLOCKS:
            return out_of_range()
        blocks = told_scheme(n, numbers, doubles)
        if blocks is None:
            return not_as_told()
        self.blocks = blocks
        self.crafts = self.new_crafts(len(self.crafts))
        return [n]

    def fleet(self, n):
        """A fleet of n craft, all as at first."""
        if not 1 <= n <= MOST_CRAFT:
            return out_of_range()
        self.crafts = self.new_crafts(n)
        return [0]

    def reset(self, craft):
        """The craft is as at first."""
        if not self.is_craft(craft):
            return out_of_range()
        if self.blocks is None:
            return no_scheme()
        self.crafts[craft] = self.new_craft()
        return [0]

    def tick(self, n, records):
        """Each of the n craft goes through a tick with its own record."""
        # How many craft there are is never past 64, so this asks for both: the range and the fleet's n.
        if n != len(self.crafts):
            return out_of_range()
        if self.blocks is None:
            return no_scheme()
        answer = [n]
        for i, craft in enumerate(self.crafts):
            answer.extend(tick_of(craft, self.blocks, record_at(records, i)))
        return answer

    def run(self, craft, n, records):
        """The craft goes through n ticks, with one record after another."""
        if not self.is_craft(craft) or not 1 <= n <= MOST_TICKS:
            return out_of_range()
        if self.blocks is None:
            return no_scheme()
        answer = [n]
        for i in range(n):
            answer.extend(tick_of(self.crafts[craft], self.blocks, record_at(records, i)))
        return answer

    def signal(self, craft, block):
        """The block's signal."""
        refusal = self.block_refusal(craft, block)
        if refusal is not None:
            return refusal
        return [0, to_double(self.crafts[craft].signals[block])]

    def seen(self, craft, block):
        """The block's least signal and its greatest behind all ticks since the craft was as at first or put."""
        refusal = self.block_refusal(craft, block)
        if refusal is not None:
            return refusal
        one_craft = self.crafts[craft]
        if not one_craft.ticked:
            return not_in_scheme()
        return [0, to_double(one_craft.least[block]), to_double(one_craft.most[block])]

    def state(self, craft, n):
        """The signal, s and t of each of the n blocks."""
        refusal = self.blocks_refusal(craft, n)
        if refusal is not None:
            return refusal
        return [n] + state_of(self.crafts[craft])

    def put(self, craft, n, doubles):
        """The craft has the signals, s and t that the doubles tell of the n blocks, and nothing is seen of it yet."""
        refusal = self.blocks_refusal(craft, n)
        if refusal is not None:
            return refusal
        craft_then = craft_put(self.blocks, doubles)
        if craft_then is None:
            return not_as_told()
        self.crafts[craft] = craft_then
        return [n]

    def block_refusal(self, craft, block):
        """Why nothing can be told of the craft's block, None if it can."""
        if not self.is_craft(craft) or not 0 <= block < MOST_BLOCKS:
            return out_of_range()
        if self.blocks is None:
            return no_scheme()
        return None if block < len(self.blocks) else not_in_scheme()

    def blocks_refusal(self, craft, n):
        """Why n blocks of the craft can't be told or put, None if they can."""
        if not self.is_craft(craft) or not 1 <= n <= MOST_BLOCKS:
            return out_of_range()
        if self.blocks is None:
            return no_scheme()
        return None if n == len(self.blocks) else not_in_scheme()

    def is_craft(self, craft):
        """Whether there's a craft of this number."""
        return 0 <= craft < len(self.crafts)

    def new_craft(self):
        """A craft as at first."""
        return Craft(0 if self.blocks is None else len(self.blocks))

    def new_crafts(self, n):
        """n craft as at first."""
        return [self.new_craft() for i in range(n)]
