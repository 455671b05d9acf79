"""The calls once more, over the model's craft: what a whole line answers, written apart from the program."""

from fractions import Fraction

from model import Model, bits_of, divided, double_of, finite, held, root, rounded, told, whole_of, width_told

# By call: how many numbers it has ahead of its rows, and how many rows.
FORM = ((0, 0), (1, 2), (1, 0), (1, 0), (1, 1), (2, 1), (2, 0), (2, 0), (2, 0), (2, 1), (5, 0), (4, 0))


def parts(call):
    """A call's numbers and rows, one behind another."""
    numbers, rows = FORM[call[0]]
    some = list(call[1:1 + numbers])
    at = 1 + numbers
    for i in range(rows):
        some.append(call[at + 1:at + 1 + call[at]])
        at += 1 + call[at]
    assert at == len(call)
    return some


def round_told(kind, op, *doubles):
    if kind not in range(3) or op not in range(9):
        return [-2]
    if not all(map(finite, doubles)):
        return [-5]
    x, y, z = [rounded(kind, Fraction(double_of(one))) for one in doubles]
    if op == 3:
        value = divided(kind, x, y)
    elif op == 4:
        value = root(kind, x)
    else:
        value = rounded(kind, {0: x + y, 1: x - y, 2: x * y, 5: x * y + z, 6: x * y - z, 7: z - x * y,
                               8: -(x * y) - z}[op])
    return [0, bits_of(value)]


def whole_told(kind, how, width, double):
    if kind not in range(3) or how not in range(4) or width not in range(8):
        return [-2]
    if not finite(double):
        return [-5]
    size, signs = width_told(width)
    low = -(1 << 8 * size - 1) if signs else 0
    whole = whole_of(how, rounded(kind, Fraction(double_of(double))))
    return [0, *int.to_bytes(held(whole, low, low + (1 << 8 * size) - 1), size, "little", signed=signs)]


class ModelStore:
    """Answers calls one by one."""

    def __init__(self):
        self.open()

    def answer(self, call):
        return (self.open, self.build, self.fleet, self.reset, self.tick, self.run, self.signal, self.seen,
                self.state, self.put, round_told, whole_told)[call[0]](*parts(call))

    def new(self):
        return Model(*(self.scheme or ([], [])))

    def open(self):
        self.scheme = None
        self.craft = [self.new()]
        return [0]

    def build(self, n, flat, doubles):
        if n not in range(1, 97):
            return [-2]
        blocks = [flat[8 * i:8 * i + 8] for i in range(n)]
        if not all(map(finite, doubles)) or not all(told(one, n, doubles) for one in blocks):
            return [-5]
        self.scheme = (blocks, doubles)
        self.craft = [self.new() for craft in self.craft]
        return [n]

    def fleet(self, n):
        if n not in range(1, 65):
            return [-2]
        self.craft = [self.new() for i in range(n)]
        return [0]

    def refusal(self, craft, in_range=True):
        """-2 or -3, else None."""
        if craft not in range(len(self.craft)) or not in_range:
            return [-2]
        return None if self.scheme else [-3]

    def reset(self, craft):
        refusal = self.refusal(craft)
        if not refusal:
            self.craft[craft] = self.new()
        return refusal or [0]

    def tick(self, n, records):
        refusal = self.refusal(0, n == len(self.craft))
        if refusal:
            return refusal
        went = [one.tick(records[256 * i:256 * i + 256]) for i, one in enumerate(self.craft)]
        return [n, *sum(went, [])]

    def run(self, craft, n, records):
        refusal = self.refusal(craft, n in range(1, 4097))
        if refusal:
            return refusal
        went = [self.craft[craft].tick(records[256 * i:256 * i + 256]) for i in range(n)]
        return [n, *sum(went, [])]

    def signal(self, craft, block):
        refusal = self.refusal(craft, block in range(96))
        if refusal:
            return refusal
        return [0, bits_of(self.craft[craft].signal[block])] if block < len(self.scheme[0]) else [-4]

    def seen(self, craft, block):
        refusal = self.refusal(craft, block in range(96))
        if refusal:
            return refusal
        if block >= len(self.scheme[0]) or not self.craft[craft].behind:
            return [-4]
        return [0, *self.craft[craft].seen(block)]

    def state(self, craft, n):
        refusal = self.refusal(craft, n in range(1, 97))
        if refusal:
            return refusal
        return [n, *self.craft[craft].state()] if n == len(self.scheme[0]) else [-4]

    def put(self, craft, n, doubles):
        refusal = self.refusal(craft, n in range(1, 97))
        if refusal:
            return refusal
        if n != len(self.scheme[0]):
            return [-4]
        return [n] if self.craft[craft].put(doubles) else [-5]
