"""Whole numbers, and fractions as tuples (top, bottom)."""

NOUGHT = (0, 1)


def is_whole(thing):
    # To Python True and False are ints, too; here they are no numbers.
    return isinstance(thing, int) and not isinstance(thing, bool)


def is_whole_within(thing, least, greatest):
    return is_whole(thing) and least <= thing <= greatest


def common_divisor(one, other):
    """The greatest common divisor of two whole numbers from nought on."""
    while other != 0:
        one, other = other, one % other
    return one


def is_fraction(thing):
    if not isinstance(thing, tuple) or len(thing) != 2:
        return False
    top, bottom = thing
    if not is_whole(top) or not is_whole(bottom):
        return False
    # No greatest size: what was told may be handed in again, however long it is.
    return top >= 0 and bottom >= 1 and common_divisor(top, bottom) == 1


def reduced(top, bottom):
    """top by bottom, without a common divisor and with a bottom above nought."""
    by = common_divisor(abs(top), abs(bottom))
    if bottom < 0:
        by = -by
    return (top // by, bottom // by)


def less(one, other):
    return one[0] * other[1] < other[0] * one[1]


def lesser(one, other):
    return other if less(other, one) else one


def plus(one, other):
    return reduced(one[0] * other[1] + other[0] * one[1], one[1] * other[1])


def minus(one, other):
    return reduced(one[0] * other[1] - other[0] * one[1], one[1] * other[1])


def times_by(one, many, by):
    """The fraction so many times, by a whole number that is not nought."""
    return reduced(one[0] * many, one[1] * by)
