"""The interface: a list of calls in, a list of their answers out."""

from courseheld.alone import answer_of_round, answer_of_whole
from courseheld.store import Store


class Reader:
    """Reads a list of calls from its first number to its last."""

    def __init__(self, told):
        self.told = told
        self.at = 0

    def done(self):
        """Whether everything is read."""
        return self.at >= len(self.told)

    def number(self):
        """The next number."""
        number = self.told[self.at]
        self.at += 1
        return number

    def row(self):
        """The next row, ahead of which stands how many numbers it has."""
        size = self.number()
        start = self.at
        self.at += size
        return self.told[start:start + size]


def read_open(store, reader):
    """What the call open answers."""
    return store.begin()


def read_build(store, reader):
    """What the call build answers."""
    n = reader.number()
    blocks = reader.row()
    constants = reader.row()
    return store.build(n, blocks, constants)


def read_fleet(store, reader):
    """What the call fleet answers."""
    return store.fleet(reader.number())


def read_reset(store, reader):
    """What the call reset answers."""
    return store.reset(reader.number())


def read_tick(store, reader):
    """What the call tick answers."""
    n = reader.number()
    records = reader.row()
    return store.tick(n, records)


def read_run(store, reader):
    """What the call run answers."""
    craft = reader.number()
    n = reader.number()
    records = reader.row()
    return store.run(craft, n, records)


def read_signal(store, reader):
    """What the call signal answers."""
    craft = reader.number()
    block = reader.number()
    return store.signal(craft, block)


def read_seen(store, reader):
    """What the call seen answers."""
    craft = reader.number()
    block = reader.number()
    return store.seen(craft, block)


def read_state(store, reader):
    """What the call state answers."""
    craft = reader.number()
    n = reader.number()
    return store.state(craft, n)


def read_put(store, reader):
    """What the call put answers."""
    craft = reader.number()
    n = reader.number()
    doubles = reader.row()
    return store.put(craft, n, doubles)


def read_round(store, reader):
    """What the call round answers; it needs no store."""
    kind = reader.number()
    op = reader.number()
    x = reader.number()
    y = reader.number()
    z = reader.number()
    return answer_of_round(kind, op, x, y, z)


def read_whole(store, reader):
    """What the call whole answers; it needs no store."""
    kind = reader.number()
    how = reader.number()
    width = reader.number()
    x = reader.number()
    return answer_of_whole(kind, how, width, x)


# By the number of a call.
CALLS = (
    read_open,
    read_build,
    read_fleet,
    read_reset,
    read_tick,
    read_run,
    read_signal,
    read_seen,
    read_state,
    read_put,
    read_round,
    read_whole,
)


def next_answer(store, reader):
    """What the next call answers."""
    read = CALLS[reader.number()]
    return read(store, reader)


def answers(calls):
    """What the calls answer: for each in order how many numbers, then these."""
    store = Store()
    reader = Reader(calls)
    told = []
    while not reader.done():
        answer = next_answer(store, reader)
        told.append(len(answer))
        told.extend(answer)
    return told
