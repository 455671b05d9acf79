"""The calls that need no store: round and whole."""

from courseheld.grains import from_double, is_kind, to_double, to_kind
from courseheld.refusals import not_as_told, out_of_range
from courseheld.steps import is_op, stepped
from courseheld.wholes import held_to_width, is_how, is_width, put_whole, size_of, to_whole


def answer_of_round(kind, op, x, y, z):
    """What the op makes of three doubles rounded to the kind; all are to be finite, also those it doesn't take."""
    if not is_kind(kind) or not is_op(op):
        return out_of_range()
    numbers = [from_double(bits) for bits in (x, y, z)]
    if None in numbers:
        return not_as_told()
    near = [to_kind(kind, number) for number in numbers]
    return [0, to_double(stepped(op, kind, near[0], near[1], near[2]))]


def answer_of_whole(kind, how, width, x):
    """The bytes of a double rounded to the kind, made a whole number and held to the width."""
    if not is_kind(kind) or not is_how(how) or not is_width(width):
        return out_of_range()
    number = from_double(x)
    if number is None:
        return not_as_told()
    whole = held_to_width(width, to_whole(how, to_kind(kind, number)))
    told = [0] * size_of(width)
    put_whole(told, 0, width, whole)
    return [0] + told
