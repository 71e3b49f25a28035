"""Broken functions: polynomials from knot to knot, with a number of its own at each knot."""

from toldmeans.errors import BadNumber, BadRow, Unlike
from toldmeans.polys import Poly
from toldmeans.ratios import halfway, is_ratio, lower, minus, plus, share, times, told
from toldmeans.rows import ascends, in_order, is_row, told_row


class Broken:
    """The function with these numbers at the knots, and these Polys strictly between them."""

    def __init__(self, knots, polys, at):
        if not is_row(knots) or len(knots) < 2 or not ascends(knots):
            raise BadRow(knots)
        if not is_row_of_polys(polys) or len(polys) != len(knots) - 1:
            raise BadRow(polys)
        if not is_row(at) or len(at) != len(knots):
            raise BadRow(at)
        self.knots = told_row(knots)
        self.polys = tuple(polys)
        self.at = told_row(at)

    def __eq__(self, other):
        return (isinstance(other, Broken) and self.knots == other.knots and self.polys == other.polys
                and self.at == other.at)

    def value(self, x):
        """The value at a place."""
        place = place_in(self, x)
        if place in self.knots:
            return self.at[self.knots.index(place)]
        return self.polys[piece_from(self, place)].at(place)

    def limits(self, x):
        """The pair of the limits from the left and from the right, None for one that is none."""
        place = place_in(self, x)
        if place in self.knots:
            return knot_limits(self, self.knots.index(place))
        number = self.polys[piece_from(self, place)].at(place)
        return (number, number)

    def is_plain(self):
        """Whether at each knot all limits are the number there."""
        return self.is_upper() and self.is_lower()

    def is_upper(self):
        """Whether at no knot a limit is above the number there."""
        return not any([lower(number, limit) for number, limit in numbers_and_limits(self)])

    def is_lower(self):
        """Whether at no knot a limit is below the number there."""
        return not any([lower(limit, number) for number, limit in numbers_and_limits(self)])

    def is_line(self):
        """Whether all pieces have degrees of at most 1."""
        return all([poly.degree() <= 1 for poly in self.polys])


def is_row_of_polys(value):
    """Whether a value is a tuple or list of Polys."""
    return isinstance(value, (tuple, list)) and all([isinstance(poly, Poly) for poly in value])


def place_in(f, x):
    """A place of a function's stretch, as a pair."""
    if not is_ratio(x) or lower(x, f.knots[0]) or lower(f.knots[-1], x):
        raise BadNumber("x", x)
    return told(x, "x")


def piece_from(f, place):
    """The index of the piece that goes on from a place below the last knot."""
    index = 0
    while not lower(place, f.knots[index + 1]):
        index = index + 1
    return index


def knot_limits(f, index):
    """The pair of the limits at the knot with an index, None for one that is none."""
    left = None
    right = None
    if index > 0:
        left = f.polys[index - 1].at(f.knots[index])
    if index < len(f.polys):
        right = f.polys[index].at(f.knots[index])
    return (left, right)


def numbers_and_limits(f):
    """The pairs of the number at a knot and a limit there, of all knots and limits."""
    found = []
    for index, number in enumerate(f.at):
        for limit in knot_limits(f, index):
            if limit is not None:
                found.append((number, limit))
    return found


def constant(low, high, number):
    """The function with this value everywhere."""
    return Broken((low, high), (Poly((number,)),), (number, number))


def step_between(knots, one, other, marked):
    """1 strictly between two knots, and at the marked ones; 0 elsewhere."""
    polys = []
    for begin in knots[:-1]:
        within = not lower(begin, one) and lower(begin, other)
        polys.append(Poly((int(within),)))
    return Broken(knots, polys, [int(mark) for mark in marked])


def closed_step(low, high, one, other):
    """1 from one to other, both among it, 0 elsewhere."""
    knots = in_order((low, high, one, other))
    marked = [not lower(knot, one) and not lower(other, knot) for knot in knots]
    return step_between(knots, one, other, marked)


def open_step(low, high, one, other):
    """1 strictly between one and other, 0 elsewhere; None stands for low or high, with the end among it."""
    begin = low if one is None else one
    end = high if other is None else other
    knots = in_order((low, high, begin, end))
    marked = [lower(begin, knot) and lower(knot, end) for knot in knots]
    if one is None:
        marked[0] = True
    if other is None:
        marked[-1] = True
    return step_between(knots, begin, end, marked)


def check_stretch(one, other):
    """The error of functions on unlike stretches."""
    if one.knots[0] != other.knots[0] or one.knots[-1] != other.knots[-1]:
        raise Unlike("stretch")


def pieces_on(f, knots):
    """The pieces of a function for each two neighbors of knots that are its own ones and perhaps more."""
    return [f.polys[piece_from(f, knot)] for knot in knots[:-1]]


def total(one, other):
    """The sum of two functions, its knots being those of both."""
    check_stretch(one, other)
    knots = in_order(one.knots + other.knots)
    polys = [poly + more for poly, more in zip(pieces_on(one, knots), pieces_on(other, knots))]
    return Broken(knots, polys, [plus(one.value(knot), other.value(knot)) for knot in knots])


def scaled(f, by):
    """A function times a ratio."""
    factor = told(by, "by")
    return Broken(f.knots, [poly * factor for poly in f.polys], [times(number, factor) for number in f.at])


def joined(f):
    """The function with the same values and as few knots as possible."""
    knots = [f.knots[0]]
    polys = [f.polys[0]]
    at = [f.at[0]]
    for index in range(1, len(f.polys)):
        poly = f.polys[index]
        if poly != polys[-1] or poly.at(f.knots[index]) != f.at[index]:
            knots.append(f.knots[index])
            polys.append(poly)
            at.append(f.at[index])
    return Broken([*knots, f.knots[-1]], polys, [*at, f.at[-1]])


def same(one, other):
    """Whether two functions have the same value at all places."""
    check_stretch(one, other)
    return joined(one) == joined(other)


def greater(one, other):
    """The greater one of the values of two lines at each place."""
    check_stretch(one, other)
    for poly in one.polys + other.polys:
        if poly.degree() > 1:
            raise BadNumber("degree", poly.degree())
    knots = in_order(one.knots + other.knots)
    knots = in_order(knots + crossings(pieces_on(one, knots), pieces_on(other, knots), knots))
    polys = []
    for index, (first, second) in enumerate(zip(pieces_on(one, knots), pieces_on(other, knots))):
        middle = halfway(knots[index], knots[index + 1])
        polys.append(second if lower(first.at(middle), second.at(middle)) else first)
    at = [greater_number(one.value(knot), other.value(knot)) for knot in knots]
    return joined(Broken(knots, polys, at))


def greater_number(one, other):
    """The greater one of two ratios."""
    return other if lower(one, other) else one


def crossings(polys, others, knots):
    """The places strictly between neighboring knots at which two straight pieces cross."""
    found = []
    for index, poly in enumerate(polys):
        rise = poly - others[index]
        if rise.degree() == 1:
            place = share(times(-1, rise.numbers[0]), rise.numbers[1])
            if lower(knots[index], place) and lower(place, knots[index + 1]):
                found.append(place)
    return found


def shifted(f, start, step):
    """The function with the value of f at start + step * t at each t."""
    first = told(start, "start")
    if told(step, "step") == (0, 1):
        raise BadNumber("step", step)
    knots = [share(minus(knot, first), step) for knot in f.knots]
    polys = [poly.moved(first, step) for poly in f.polys]
    if lower(step, 0):
        return Broken(knots[::-1], polys[::-1], f.at[::-1])
    return Broken(knots, polys, f.at)
