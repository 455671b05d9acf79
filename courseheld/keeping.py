"""The rows of the table that look at the signal of the tick before, or keep s and t."""

from courseheld.grains import difference, fused, held, held_between, one, product, quotient, total


def moved(kind, part, a, old):
    """part (a - old) + old, the difference rounded, the rest as one, held between old and a."""
    return held_between(fused(kind, part, difference(kind, a, old), old), old, a)


def slew(turn):
    """Row 17."""
    low = difference(turn.kind, turn.old, turn.p)
    high = total(turn.kind, turn.old, turn.p)
    return held(turn.a, low, high)


def lag(turn):
    """Row 18."""
    return moved(turn.kind, turn.p, turn.a, turn.old)


def integral(turn):
    """Row 19."""
    return held(fused(turn.kind, turn.p, turn.a, turn.old), turn.q, turn.r)


def slope(turn):
    """Row 20."""
    signal = product(turn.kind, turn.p, difference(turn.kind, turn.a, turn.s))
    turn.s = turn.a
    return signal


def delay(turn):
    """Row 21."""
    signal = turn.s
    turn.s = turn.a
    return signal


def relay(turn):
    """Row 22."""
    if turn.a > turn.q:
        return one()
    if turn.a < turn.p:
        return 0
    return turn.old


def five_filter(turn):
    """Row 30."""
    kind = turn.kind
    factors = turn.block.given
    signal = fused(kind, factors[0], turn.a, turn.s)
    # s takes the t of the tick before, so t is the last to change.
    turn.s = fused(kind, -factors[3], signal, fused(kind, factors[1], turn.a, turn.t))
    turn.t = fused(kind, factors[2], turn.a, -product(kind, factors[4], signal))
    return signal


def tracker(turn):
    """Row 31."""
    kind = turn.kind
    middle = fused(kind, turn.s, turn.p, turn.old)
    error = difference(kind, turn.a, middle)
    turn.s = fused(kind, turn.r, error, turn.s)
    return fused(kind, turn.q, error, middle)


def kalman(turn):
    """Row 33."""
    kind = turn.kind
    spread = total(kind, turn.s, turn.p)
    gain = quotient(kind, spread, total(kind, spread, turn.q))
    turn.s = held(fused(kind, -gain, spread, spread), 0, spread)
    return moved(kind, gain, turn.a, turn.old)


def counter(turn):
    """Row 37."""
    if turn.b != 0:
        return 0
    if turn.a != 0:
        return min(turn.p, total(turn.kind, turn.old, one()))
    return turn.old


def hold(turn):
    """Row 38."""
    return turn.a if turn.b != 0 else turn.old


KEEPING_ROWS = {
    17: slew,
    18: lag,
    19: integral,
    20: slope,
    21: delay,
    22: relay,
    30: five_filter,
    31: tracker,
    33: kalman,
    37: counter,
    38: hold,
}


def keeping_row(what):
    """What a block of such a row does in its turn, None for the other rows."""
    return KEEPING_ROWS.get(what)
