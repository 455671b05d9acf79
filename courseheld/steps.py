"""The steps of reckoning that rows 2 to 10 of the table and the call round share, by the call's op."""

from courseheld.grains import difference, fused, product, quotient, root, total


def add_two(kind, x, y, z):
    """Op 0."""
    return total(kind, x, y)


def subtract(kind, x, y, z):
    """Op 1."""
    return difference(kind, x, y)


def multiply(kind, x, y, z):
    """Op 2."""
    return product(kind, x, y)


def divide(kind, x, y, z):
    """Op 3."""
    return quotient(kind, x, y)


def take_root(kind, x, y, z):
    """Op 4."""
    return root(kind, x)


def multiply_add(kind, x, y, z):
    """Op 5."""
    return fused(kind, x, y, z)


def multiply_subtract(kind, x, y, z):
    """Op 6."""
    return fused(kind, x, y, -z)


def subtract_product(kind, x, y, z):
    """Op 7."""
    return fused(kind, -x, y, z)


def negate_multiply_subtract(kind, x, y, z):
    """Op 8."""
    return fused(kind, -x, y, -z)


STEPS = (
    add_two,
    subtract,
    multiply,
    divide,
    take_root,
    multiply_add,
    multiply_subtract,
    subtract_product,
    negate_multiply_subtract,
)


def is_op(op):
    """Whether there's such an op."""
    return 0 <= op < len(STEPS)


def stepped(op, kind, x, y, z):
    """What the op makes of x, y and z, which are numbers of the kind."""
    step = STEPS[op]
    return step(kind, x, y, z)
