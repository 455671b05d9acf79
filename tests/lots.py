"""What tests draw by lot."""

from lines import GREATEST, KINDS, LEAST, NEXT


def drawn_constant(lot):
    """A double that is apt to meet an edge of some kind."""
    kind = lot.choice(KINDS)
    e, g, d = NEXT[kind], GREATEST[kind], LEAST[kind]
    value = lot.choice([
        0.0, 1.0, 1 + e, 1 - e / 2, 0.5, 2.0, g, g / 2, d, 3 * d, d * lot.randrange(2000), e, e / 2, 3 * e / 4,
        lot.randrange(-9, 10), lot.uniform(-3, 3), lot.uniform(0, 1), lot.gauss(0, 1) * 10.0 ** lot.randrange(-7, 6),
        float(lot.getrandbits(20)), lot.random() * 2.0 ** lot.randrange(-1070, 1020), 65504.0, 65520.0, 1e300,
    ])
    return float(value) * lot.choice((1, 1, -1))


def drawn_block(lot, n, constants, what=None):
    """A block as told, drawn until it is one."""
    while True:
        row = lot.randrange(40) if what is None else what
        numbers = [row, lot.choice(KINDS)] + [lot.randrange(n) for i in range(3)]
        numbers += [lot.randrange(constants) for i in range(3)]
        if row == 0:
            numbers[3] = lot.randrange(8)
            numbers[2] = lot.randrange(0, 256, 1 << numbers[3] % 4)
        elif row == 36:
            numbers[4] = lot.randrange(8)
            numbers[3] = lot.randrange(0, 128, 1 << numbers[4] % 4)
        elif row == 34:
            numbers[3] = lot.randrange(1, 6)
        if row in (35, 36):
            numbers[5] = lot.randrange(4)
        return numbers
