"""Ratios, told as pairs of integers in lowest terms, the second one above 0."""

from math import gcd

from toldmeans.errors import BadNumber


def is_whole(value):
    """Whether a value is an integer; True and False are none."""
    return isinstance(value, int) and not isinstance(value, bool)


def is_pair(value):
    """Whether a value is a tuple or list of two integers, the second one above 0."""
    if not isinstance(value, (tuple, list)) or len(value) != 2:
        return False
    return is_whole(value[0]) and is_whole(value[1]) and value[1] > 0


def is_ratio(value):
    """Whether a value is an integer, or a pair that stands for a ratio."""
    return is_whole(value) or is_pair(value)


def lowest(top, bottom):
    """The pair, in lowest terms, of two integers of which the second one is above 0."""
    most = gcd(top, bottom)
    return (top // most, bottom // most)


def told(value, what):
    """A ratio as a pair in lowest terms."""
    if not is_ratio(value):
        raise BadNumber(what, value)
    if is_whole(value):
        return lowest(value, 1)
    return lowest(value[0], value[1])


def plus(one, other):
    """The sum of two ratios."""
    top, bottom = told(one, "ratio")
    above, below = told(other, "ratio")
    return lowest(top * below + above * bottom, bottom * below)


def minus(one, other):
    """One ratio less another one."""
    top, bottom = told(one, "ratio")
    above, below = told(other, "ratio")
    return lowest(top * below - above * bottom, bottom * below)


def times(one, other):
    """The product of two ratios."""
    top, bottom = told(one, "ratio")
    above, below = told(other, "ratio")
    return lowest(top * above, bottom * below)


def share(one, other):
    """One ratio divided by another one."""
    top, bottom = told(one, "ratio")
    above, below = told(other, "ratio")
    if above == 0:
        raise BadNumber("divisor", other)
    if above < 0:
        return lowest(-top * below, bottom * -above)
    return lowest(top * below, bottom * above)


def lower(one, other):
    """Whether one ratio is below another one."""
    top, bottom = told(one, "ratio")
    above, below = told(other, "ratio")
    return top * below < above * bottom


def halfway(one, other):
    """The ratio halfway between two ratios."""
    return times(plus(one, other), (1, 2))


def gap_of(bits):
    """The gap of some bits: 2 to the power of -bits."""
    if not is_whole(bits) or bits < 0 or bits > 60:
        raise BadNumber("bits", bits)
    return (1, 1 << bits)


def floor_of(value):
    """The greatest integer that is not above a ratio."""
    top, bottom = told(value, "ratio")
    return top // bottom


def digits_of(number):
    """The digits of an integer from 0 on."""
    # Python refuses to write very long integers in one go, so they are cut into blocks.
    blocks = []
    left = number
    while left >= 10 ** 60:
        left, block = divmod(left, 10 ** 60)
        blocks.append(str(block).zfill(60))
    blocks.append(str(left))
    return "".join(reversed(blocks))


def ratio_text(value):
    """The text of a ratio in lowest terms, such as 5, -7 or 22/7."""
    top, bottom = told(value, "ratio")
    text = digits_of(abs(top))
    if top < 0:
        text = "-" + text
    if bottom == 1:
        return text
    return text + "/" + digits_of(bottom)
