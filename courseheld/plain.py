"""The rows of the table that look only at what they take in this tick, records among it."""

from courseheld.grains import difference, from_whole, fused, held, held_between, one, quotient, total
from courseheld.steps import stepped
from courseheld.wholes import held_to_width, put_whole, read_whole, to_whole

# The row that is op 0 of the call round.
FIRST_STEP = 2


def truth(true):
    """The number 1 for true, 0 for false."""
    return one() if true else 0


def sensor(turn):
    """Row 0."""
    block = turn.block
    whole = read_whole(turn.came, block.place, block.width)
    return fused(turn.kind, from_whole(turn.kind, whole), turn.q, turn.r)


def constant(turn):
    """Row 1."""
    return turn.p


def reckon(turn):
    """Rows 2 to 10, which are the ops of the call round in their order."""
    return stepped(turn.block.what - FIRST_STEP, turn.kind, turn.a, turn.b, turn.c)


def lesser(turn):
    """Row 11."""
    return min(turn.a, turn.b)


def greater(turn):
    """Row 12."""
    return max(turn.a, turn.b)


def without_sign(turn):
    """Row 13."""
    return abs(turn.a)


def negative(turn):
    """Row 14."""
    return -turn.a


def limit(turn):
    """Row 15."""
    return held(turn.a, turn.p, turn.q)


def dead_zone(turn):
    """Row 16."""
    if turn.a > turn.p:
        return difference(turn.kind, turn.a, turn.p)
    if turn.a < -turn.p:
        return total(turn.kind, turn.a, turn.p)
    return 0


def below(turn):
    """Row 23."""
    return truth(turn.a < turn.b)


def not_above(turn):
    """Row 24."""
    return truth(turn.a <= turn.b)


def same(turn):
    """Row 25."""
    return truth(turn.a == turn.b)


def choice(turn):
    """Row 26."""
    return turn.c if turn.a == 0 else turn.b


def both(turn):
    """Row 27."""
    return truth(turn.a != 0 and turn.b != 0)


def either(turn):
    """Row 28."""
    return truth(turn.a != 0 or turn.b != 0)


def neither(turn):
    """Row 29."""
    return truth(turn.a == 0)


def kept(turn):
    """Row 32: its turn takes another block's s in place of a signal."""
    return turn.a


def curve(turn):
    """Row 34."""
    points = turn.block.given
    last = len(points) - 2
    if turn.a <= points[0]:
        return points[1]
    if turn.a >= points[last]:
        return points[last + 1]
    i = 0
    while points[i + 2] <= turn.a:
        i += 2
    return on_curve(turn, points[i], points[i + 1], points[i + 2], points[i + 3])


def on_curve(turn, x, y, next_x, next_y):
    """Row 34 from one point on and ahead of the next; on the point itself the share is 0, and this is y."""
    kind = turn.kind
    share = quotient(kind, difference(kind, turn.a, x), difference(kind, next_x, x))
    return held_between(fused(kind, share, difference(kind, next_y, y), y), y, next_y)


def as_whole(turn):
    """Row 35."""
    return from_whole(turn.kind, to_whole(turn.block.how, turn.a))


def rudder(turn):
    """Row 36."""
    block = turn.block
    whole = held_to_width(block.width, to_whole(block.how, turn.a))
    put_whole(turn.goes, block.place, block.width, whole)
    return from_whole(turn.kind, whole)


def sign(turn):
    """Row 39."""
    if turn.a == 0:
        return 0
    return one() if turn.a > 0 else -one()


PLAIN_ROWS = {
    0: sensor,
    1: constant,
    2: reckon,
    3: reckon,
    4: reckon,
    5: reckon,
    6: reckon,
    7: reckon,
    8: reckon,
    9: reckon,
    10: reckon,
    11: lesser,
    12: greater,
    13: without_sign,
    14: negative,
    15: limit,
    16: dead_zone,
    23: below,
    24: not_above,
    25: same,
    26: choice,
    27: both,
    28: either,
    29: neither,
    32: kept,
    34: curve,
    35: as_whole,
    36: rudder,
    39: sign,
}


def plain_row(what):
    """What a block of such a row does in its turn, None for the other rows."""
    return PLAIN_ROWS.get(what)
