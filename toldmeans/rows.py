"""Rows of ratios: such as are passed, told, kept and judged."""

from math import lcm

from toldmeans.ratios import is_pair, is_ratio, is_whole, lower, lowest, told


def is_row(value):
    """Whether a value is a tuple or list of ratios."""
    if not isinstance(value, (tuple, list)):
        return False
    return all([is_ratio(number) for number in value])


def ascends(row):
    """Whether the ratios of a row ascend, no two of them being equal."""
    return all([lower(one, other) for one, other in zip(row, row[1:])])


def told_row(row):
    """A row of ratios as a tuple of pairs in lowest terms."""
    return tuple([told(number, "number") for number in row])


def pair_of(number):
    """A ratio as a pair in lowest terms."""
    return told(number, "number")


def sum_of(row):
    """The sum of a row of ratios, as a pair."""
    tops, bottom = over_one_bottom(told_row(row))
    return lowest(sum(tops), bottom)


def are_whole_parts(row):
    """Whether the ratios of a row are above 0 and add up to 1."""
    return all([lower(0, part) for part in row]) and sum_of(row) == (1, 1)


def kept(value):
    """What an object without errors of its own keeps of a value: a list as a tuple, all else as it is."""
    if isinstance(value, list):
        return tuple(value)
    return value


def is_judged(value):
    """Whether a value within a judged one is a ratio; lists are none there."""
    return is_whole(value) or (isinstance(value, tuple) and is_pair(value))


def is_judged_row(value):
    """Whether a value within a judged one is a row of ratios; lists are none there."""
    return isinstance(value, tuple) and all([is_judged(number) for number in value])


def over_one_bottom(pairs):
    """The integers that stand for a row of pairs above one bottom, and this bottom."""
    shared = 1
    for _, bottom in pairs:
        shared = lcm(shared, bottom)
    return [top * (shared // bottom) for top, bottom in pairs], shared


def in_order(row):
    """The ratios of a row in ascending order, each once, as pairs."""
    tops, bottom = over_one_bottom(told_row(row))
    return [lowest(top, bottom) for top in sorted(set(tops))]


def joint_sums(rows, amounts):
    """The sum of each row's items, each times the amount at its place; all of them are pairs."""
    # Integers above one bottom need one reduction, ratios one for each item.
    factors, below = over_one_bottom(amounts)
    found = []
    for row in rows:
        tops, bottom = over_one_bottom(row)
        found.append(lowest(sum([top * factor for top, factor in zip(tops, factors)]), bottom * below))
    return found


def joint_sum(row, amounts):
    """joint_sums of one row."""
    return joint_sums([row], amounts)[0]
