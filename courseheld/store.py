"""A store: one scheme, a fleet of craft, and the calls on them."""

from courseheld.craft import Craft, tick_of
from courseheld.scheme import MOST_BLOCKS, RECORD_SIZE, told_scheme

MOST_CRAFT = 64
MOST_TICKS = 4096


def out_of_range():
    """The refusal of a number that isn't among those told."""
    return [-2]


def no_scheme():
    """The refusal where there's no scheme."""
    return [-3]


def not_as_told():
    """The refusal of a block that isn't as told, or of a number that isn't finite."""
    return [-5]


def record_at(records, i):
    """The i-th of the records that stand one behind another."""
    return records[RECORD_SIZE * i:RECORD_SIZE * (i + 1)]


class Store:
    """One scheme and a fleet; each call answers the list of its numbers."""

    def __init__(self):
        self.blocks = None
        self.crafts = [Craft(0)]

    def begin(self):
        """The call open: no scheme, one craft."""
        self.blocks = None
        self.crafts = [Craft(0)]
        return [0]

    def build(self, n, numbers, doubles):
        """The scheme of n blocks; every craft is as at first."""
        if not 1 <= n <= MOST_BLOCKS:
            return out_of_range()
        blocks = told_scheme(n, numbers, doubles)
        if blocks is None:
            return not_as_told()
        self.blocks = blocks
        self.crafts = self.new_crafts(len(self.crafts))
        return [n]

    def fleet(self, n):
        """A fleet of n craft, all as at first."""
        if not 1 <= n <= MOST_CRAFT:
            return out_of_range()
        self.crafts = self.new_crafts(n)
        return [0]

    def reset(self, craft):
        """The craft is as at first."""
        if not self.is_craft(craft):
            return out_of_range()
        if self.blocks is None:
            return no_scheme()
        self.crafts[craft] = self.new_craft()
        return [0]

    def tick(self, n, records):
        """Each of the n craft goes through a tick with its own record."""
        # How many craft there are is never past 64, so this asks for both: the range and the fleet's n.
        if n != len(self.crafts):
            return out_of_range()
        if self.blocks is None:
            return no_scheme()
        answer = [n]
        for i, craft in enumerate(self.crafts):
            answer.extend(tick_of(craft, self.blocks, record_at(records, i)))
        return answer

    def run(self, craft, n, records):
        """The craft goes through n ticks, with one record after another."""
        if not self.is_craft(craft) or not 1 <= n <= MOST_TICKS:
            return out_of_range()
        if self.blocks is None:
            return no_scheme()
        answer = [n]
        for i in range(n):
            answer.extend(tick_of(self.crafts[craft], self.blocks, record_at(records, i)))
        return answer

    def is_craft(self, craft):
        """Whether there's a craft of this number."""
        return 0 <= craft < len(self.crafts)

    def new_craft(self):
        """A craft as at first."""
        return Craft(0 if self.blocks is None else len(self.blocks))

    def new_crafts(self, n):
        """n craft as at first."""
        return [self.new_craft() for i in range(n)]
