"""Whole numbers, names and exact fractions: what all other files measure with.

A fraction is a pair (top, bottom) in lowest terms. On the way to an answer its top may be
below nought; is_fraction is strict, since it judges what is handed in.
"""

LONGEST_NAME = 8
NOUGHT = (0, 1)


def is_whole(thing):
    """Tell whether the thing is a whole number; Python counts truths as ints, so they are barred."""
    return isinstance(thing, int) and not isinstance(thing, bool)


def is_whole_within(thing, least, most):
    """Tell whether the thing is a whole number from least to most."""
    return is_whole(thing) and least <= thing <= most


def is_tuple_of(thing, many):
    """Tell whether the thing is a tuple of so many things."""
    return isinstance(thing, tuple) and len(thing) == many


def is_name(thing):
    """Tell whether the thing is a text of 1 to 8 small letters."""
    if not isinstance(thing, str) or not 1 <= len(thing) <= LONGEST_NAME:
        return False
    return all(["a" <= sign <= "z" for sign in thing])


def common_divisor(one, other):
    """Tell the greatest common divisor of two whole numbers from nought on."""
    while other > 0:
        one, other = other, one % other
    return one


def is_fraction(thing):
    """Tell whether the thing is a fraction from nought on, in lowest terms."""
    if not is_tuple_of(thing, 2):
        return False
    top, bottom = thing
    if not is_whole(top) or not is_whole(bottom) or top < 0 or bottom < 1:
        return False
    return common_divisor(top, bottom) == 1


def lowest(top, bottom):
    """Tell top by bottom in lowest terms; the bottom is above nought."""
    divisor = common_divisor(abs(top), bottom)
    return (top // divisor, bottom // divisor)


def plus(one, other):
    """Tell the sum of two fractions."""
    return lowest(one[0] * other[1] + other[0] * one[1], one[1] * other[1])


def minus(one, other):
    """Tell how much more one fraction is than the other."""
    return plus(one, (-other[0], other[1]))


def times(fraction, whole):
    """Tell a fraction times a whole number."""
    return lowest(fraction[0] * whole, fraction[1])


def shared(fraction, whole):
    """Tell a fraction by a whole number above nought."""
    return lowest(fraction[0], fraction[1] * whole)


def is_at_most(one, other):
    """Tell whether one fraction is no more than the other."""
    return one[0] * other[1] <= other[0] * one[1]
