"""The interface: a list of calls in, a list of their answers out."""

from courseheld.store import Store


class CallNotThere(Exception):
    """A call that this program doesn't answer."""


class Reader:
    """Reads a list of calls from its first number to its last."""

    def __init__(self, told):
        self.told = told
        self.at = 0

    def done(self):
        """Whether everything is read."""
        return self.at >= len(self.told)

    def number(self):
        """The next number."""
        number = self.told[self.at]
        self.at += 1
        return number

    def row(self):
        """The next row, ahead of which stands how many numbers it has."""
        size = self.number()
        start = self.at
        self.at += size
        return self.told[start:start + size]


def answer_of_build(store, reader):
    """What the call build answers."""
    n = reader.number()
    blocks = reader.row()
    constants = reader.row()
    return store.build(n, blocks, constants)


def answer_of_run(store, reader):
    """What the call run answers."""
    craft = reader.number()
    n = reader.number()
    records = reader.row()
    return store.run(craft, n, records)


def answer_of_tick(store, reader):
    """What the call tick answers."""
    n = reader.number()
    records = reader.row()
    return store.tick(n, records)


def next_answer(store, reader):
    """What the next call answers."""
    call = reader.number()
    if call == 0:
        return store.begin()
    if call == 1:
        return answer_of_build(store, reader)
    if call == 2:
        return store.fleet(reader.number())
    if call == 3:
        return store.reset(reader.number())
    if call == 4:
        return answer_of_tick(store, reader)
    if call == 5:
        return answer_of_run(store, reader)
    raise CallNotThere(f"there is no call {call}")


def answers(calls):
    """What the calls answer: for each in order how many numbers, then these."""
    store = Store()
    reader = Reader(calls)
    told = []
    while not reader.done():
        answer = next_answer(store, reader)
        told.append(len(answer))
        told.extend(answer)
    return told
