"""Shares with finitely many places, and told means of broken functions."""

from toldmeans.broken import Broken
from toldmeans.errors import BadNumber, BadRow, Unlike
from toldmeans.ratios import gap_of, is_ratio, lower, minus, plus, times, told
from toldmeans.rows import are_whole_parts, ascends, in_order, is_row, joint_sum, sum_of, told_row


class Share:
    """Ascending places, each with its part of one whole."""

    def __init__(self, places, parts):
        if not is_row(places) or len(places) == 0 or not ascends(places):
            raise BadRow(places)
        if not are_parts(parts, len(places)):
            raise BadRow(parts)
        self.places = told_row(places)
        self.parts = told_row(parts)

    def __eq__(self, other):
        return isinstance(other, Share) and self.places == other.places and self.parts == other.parts


class Told:
    """That the mean of a function is at least one number, and at most another one; None is no bound."""

    def __init__(self, function, least, most):
        if not is_bounded_kind(function):
            raise Unlike("kind")
        if least is not None and not (is_ratio(least) and function.is_upper()):
            raise BadNumber("least", least)
        if most is not None and not (is_ratio(most) and function.is_lower()):
            raise BadNumber("most", most)
        if least is not None and most is not None and lower(most, least):
            raise BadNumber("most", most)
        if least is None and most is None:
            raise Unlike("bounds")
        self.function = function
        self.least = None if least is None else told(least, "least")
        self.most = None if most is None else told(most, "most")


def are_parts(value, many):
    """Whether a value is a row of so many ratios above 0 that add up to 1."""
    return is_row(value) and len(value) == many and are_whole_parts(value)


def is_bounded_kind(function):
    """Whether a value is a Broken of a kind whose means may have bounds."""
    return isinstance(function, Broken) and (function.is_upper() or function.is_lower())


def is_within(share, low, high):
    """Whether all places of a share are from low to high."""
    return not lower(share.places[0], low) and not lower(high, share.places[-1])


def means_of(share, functions):
    """The means of functions, each of which has the share's places on its stretch."""
    return [joint_sum([f.value(place) for place in share.places], share.parts) for f in functions]


def mean(share, function):
    """The mean of a function, with its own numbers at its knots."""
    if not is_within(share, function.knots[0], function.knots[-1]):
        raise Unlike("place")
    return means_of(share, [function])[0]


def check_ends(low, high):
    """The errors of the ends of a chance."""
    if not is_ratio(low):
        raise BadNumber("low", low)
    if not is_ratio(high) or lower(high, low):
        raise BadNumber("high", high)


def chance(share, low, high):
    """The sum of the parts of all places from low to high, both among them."""
    check_ends(low, high)
    found = []
    for place, part in zip(share.places, share.parts):
        if not lower(place, low) and not lower(high, place):
            found.append(part)
    return sum_of(found)


def chance_between(share, low, high):
    """The sum of the parts of all places strictly between low and high."""
    check_ends(low, high)
    found = []
    for place, part in zip(share.places, share.parts):
        if lower(low, place) and lower(place, high):
            found.append(part)
    return sum_of(found)


def first_reaching(places, parts, level):
    """The first place at which the parts up to it add up to a level at least."""
    found = parts[0]
    at = 0
    while lower(found, level):
        at = at + 1
        found = plus(found, parts[at])
    return places[at]


def levels(share, level):
    """The least and the greatest number up to which the parts add up to a level at least, and from which on they
    add up to the rest of 1 at least."""
    first = first_reaching(share.places, share.parts, level)
    last = first_reaching(share.places[::-1], share.parts[::-1], minus(1, level))
    return (first, last)


def medians(share):
    """The pair of the least and the greatest median."""
    return levels(share, (1, 2))


def gathered(places, parts):
    """The Share with parts at places in any order, those at one place together; places are pairs."""
    found = {}
    for place, part in zip(places, parts):
        found[place] = plus(found[place], part) if place in found else part
    row = in_order(list(found))
    return Share(row, [found[one] for one in row])


def mixed(shares, parts):
    """The Share that has each part of each share times the part of this share."""
    if not are_parts(parts, len(shares)):
        raise BadRow(parts)
    places = []
    found = []
    for share, by in zip(shares, parts):
        for place, part in zip(share.places, share.parts):
            places.append(place)
            found.append(times(part, by))
    return gathered(places, found)


def moved(share, factor, shift):
    """The Share with the place factor * x + shift for each place x."""
    by = told(factor, "factor")
    start = told(shift, "shift")
    return gathered([plus(times(by, place), start) for place in share.places], share.parts)


def check_one_stretch(functions):
    """The error of functions with unlike first or last knots."""
    for f in functions:
        if f.knots[0] != functions[0].knots[0] or f.knots[-1] != functions[0].knots[-1]:
            raise Unlike("stretch")


def functions_of(rows):
    """The functions of a row of told means."""
    return [row.function for row in rows]


def gap_missed(found, rows):
    """The least number by which all bounds of a row must be widened for means to keep them; not below 0."""
    most = (0, 1)
    for number, row in zip(found, rows):
        if row.least is not None and lower(most, minus(row.least, number)):
            most = minus(row.least, number)
        if row.most is not None and lower(most, minus(number, row.most)):
            most = minus(number, row.most)
    return most


def check_places(share, rows):
    """The error of a share with places off the stretch of a row."""
    if len(rows) > 0:
        knots = rows[0].function.knots
        if not is_within(share, knots[0], knots[-1]):
            raise Unlike("place")


def missed(share, rows):
    """The least number to which a share fits a row of told means."""
    check_one_stretch(functions_of(rows))
    check_places(share, rows)
    return gap_missed(means_of(share, functions_of(rows)), rows)


def fits(share, rows, bits=None):
    """Whether a share fits a row of told means to the gap of some bits, or just so for None."""
    check_one_stretch(functions_of(rows))
    gap = (0, 1) if bits is None else gap_of(bits)
    check_places(share, rows)
    return not lower(gap, gap_missed(means_of(share, functions_of(rows)), rows))
