"""What one more told mean would say of another one, exactly, for rows of told means of lines."""

from toldmeans.broken import Broken, greater_number, joined, scaled, total
from toldmeans.errors import Unlike
from toldmeans.lines import greatest_of, is_barred, no_share
from toldmeans.polys import Poly
from toldmeans.ratios import minus, plus, share, times
from toldmeans.rows import kept
from toldmeans.shares import check_one_stretch, functions_of
from toldmeans.straight import asked_rows, check_degrees, check_told_row, edge, knots_of, share_of, values_at


class MayBe:
    """The least and the greatest mean of a function, and shares that have them."""

    def __init__(self, low, high, low_share, high_share):
        self.low = kept(low)
        self.high = kept(high)
        self.low_share = kept(low_share)
        self.high_share = kept(high_share)


class Narrowed:
    """From the least to the greatest mean of one function: the least and the greatest mean of another one."""

    def __init__(self, low, high, lower, upper):
        self.low = kept(low)
        self.high = kept(high)
        self.lower = kept(lower)
        self.upper = kept(upper)


class Fixed:
    """The only mean of one function, and the least and the greatest mean of another one."""

    def __init__(self, number, least, greatest):
        self.number = kept(number)
        self.least = kept(least)
        self.greatest = kept(greatest)


class Left:
    """How far the means of a function are still apart at most when another mean is told, the least such mean, and
    how far they are apart before."""

    def __init__(self, width, value, whole):
        self.width = kept(width)
        self.value = kept(value)
        self.whole = kept(whole)


def check_plain(functions):
    """The error of functions that are not plain."""
    for f in functions:
        if not f.is_plain():
            raise Unlike("kind")


def check_news(rows, functions):
    """The errors of questions about one row of told means."""
    check_told_row(rows)
    check_one_stretch(functions_of(rows) + functions)
    check_degrees(functions_of(rows) + functions)
    check_plain(functions)


def ends_of(question, values):
    """The pairs of the least and of the greatest mean of a function with these values, and of its mix."""
    most, mix = greatest_of(question, values)
    least, other = greatest_of(question, [times(-1, value) for value in values])
    return (times(-1, least), other), (most, mix)


def may_be(rows, function):
    """MayBe or NoShare for the means of a function."""
    check_news(rows, [function])
    knots = knots_of(functions_of(rows) + [function])
    question = asked_rows(rows, knots)
    if is_barred(question):
        return no_share(question)
    (low, one), (high, other) = ends_of(question, values_at(function, knots))
    return MayBe(low, high, share_of(question, one), share_of(question, other))


def through(points):
    """The function that goes straight from each point to the next one, in the form of joined."""
    polys = []
    for (left, one), (right, other) in zip(points, points[1:]):
        rise = share(minus(other, one), minus(right, left))
        polys.append(Poly((minus(one, times(rise, left)), rise)))
    return joined(Broken([point[0] for point in points], polys, [point[1] for point in points]))


def narrowed(rows, function, question):
    """Narrowed, Fixed or NoShare for the means of the question once the function's mean is told."""
    check_news(rows, [function, question])
    knots = knots_of(functions_of(rows) + [function, question])
    found = asked_rows(rows, knots)
    if is_barred(found):
        return no_share(found)
    across = values_at(function, knots)
    upward = values_at(question, knots)
    above = edge(found, across, upward)
    below = [(place, times(-1, number)) for place, number in edge(found, across, [times(-1, one) for one in upward])]
    if len(above) == 1:
        return Fixed(above[0][0], below[0][1], above[0][1])
    return Narrowed(above[0][0], above[-1][0], through(below), through(above))


def width_left(rows, function, question):
    """Left or NoShare for the widest stretch of the question's means once the function's mean is told."""
    found = narrowed(rows, function, question)
    if isinstance(found, Fixed):
        width = minus(found.greatest, found.least)
        return Left(width, found.number, width)
    if not isinstance(found, Narrowed):
        return found
    negative = scaled(found.lower, -1)
    between = total(found.upper, negative)
    width = greatest_value(between)
    # The stretch's length bends downwards, so the least place at which it is greatest is a knot.
    value = between.knots[between.at.index(width)]
    return Left(width, value, plus(greatest_value(found.upper), greatest_value(negative)))


def greatest_value(f):
    """The greatest value of a plain line."""
    most = f.at[0]
    for number in f.at:
        most = greater_number(most, number)
    return most


def apart(rows, others, question):
    """How far the means of the question for two rows of told means are apart, both ways round; or NoShare."""
    check_told_row(rows)
    check_told_row(others)
    functions = functions_of(rows) + functions_of(others) + [question]
    check_one_stretch(functions)
    check_degrees(functions)
    check_plain([question])
    ends = []
    for one in (rows, others):
        knots = knots_of(functions_of(one) + [question])
        found = asked_rows(one, knots)
        if is_barred(found):
            return no_share(found)
        (least, _), (most, _) = ends_of(found, values_at(question, knots))
        ends.append((least, most))
    return greater_number(distance(ends[0][0], ends[1][0]), distance(ends[0][1], ends[1][1]))


def distance(one, other):
    """How far two ratios are from each other."""
    top, bottom = minus(one, other)
    return (abs(top), bottom)
