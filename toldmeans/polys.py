"""Polynomials in x with ratios as their numbers."""

from math import gcd

from toldmeans.errors import BadNumber, BadRow
from toldmeans.ratios import is_ratio, lowest, minus, plus, share, times, told
from toldmeans.rows import is_row, over_one_bottom


class Poly:
    """The polynomial with these numbers for the powers 0, 1, 2, .. of x."""

    def __init__(self, numbers):
        if not is_row(numbers):
            raise BadRow(numbers)
        pairs = [told(number, "number") for number in numbers]
        self.numbers = tuple(pairs[:many_needed([top for top, _ in pairs])])

    def __eq__(self, other):
        return isinstance(other, Poly) and self.numbers == other.numbers

    def __add__(self, other):
        poly = as_poly(other)
        if poly is None:
            return NotImplemented
        return added(self, poly)

    def __radd__(self, other):
        poly = as_poly(other)
        if poly is None:
            return NotImplemented
        return added(poly, self)

    def __sub__(self, other):
        poly = as_poly(other)
        if poly is None:
            return NotImplemented
        return added(self, -poly)

    def __rsub__(self, other):
        poly = as_poly(other)
        if poly is None:
            return NotImplemented
        return added(poly, -self)

    def __mul__(self, other):
        poly = as_poly(other)
        if poly is None:
            return NotImplemented
        return multiplied(self, poly)

    def __rmul__(self, other):
        poly = as_poly(other)
        if poly is None:
            return NotImplemented
        return multiplied(poly, self)

    def __neg__(self):
        return Poly([(-top, bottom) for top, bottom in self.numbers])

    def degree(self):
        """The greatest power with a number other than 0, -1 if there is none."""
        return len(self.numbers) - 1

    def at(self, place):
        """The value at a ratio."""
        above, below = told(place, "place")
        tops, bottom = over_one_bottom(self.numbers)
        total = 0
        scale = 1
        for top in reversed(tops):
            total = total * above + top * scale
            scale = scale * below
        # scale has one factor below more than the total needs.
        return lowest(total * below, bottom * scale)

    def slope(self):
        """The Poly with k times the number of x ** k for the power k - 1."""
        return Poly([times(k, number) for k, number in enumerate(self.numbers)][1:])

    def area(self):
        """The Poly that has this one as its slope, and the value 0 at 0."""
        return Poly([0] + [share(number, k + 1) for k, number in enumerate(self.numbers)])

    def moved(self, start, step):
        """The Poly with the value of this one at start + step * x at each x."""
        first = told(start, "start")
        by = told(step, "step")
        inner = Poly((first, by))
        found = Poly(())
        for number in reversed(self.numbers):
            found = found * inner + number
        return found


def many_needed(row):
    """How many integers of a row are left without the zeros at its end."""
    many = len(row)
    while many > 0 and row[many - 1] == 0:
        many = many - 1
    return many


def as_poly(value):
    """A Poly itself, or the one that an integer or a tuple stands for; None for others."""
    if isinstance(value, Poly):
        return value
    # A list is a ratio elsewhere, but not beside a sign.
    if is_ratio(value) and not isinstance(value, list):
        return Poly((value,))
    return None


def number_for(poly, power):
    """The number of a power, also of one above the degree."""
    if power < len(poly.numbers):
        return poly.numbers[power]
    return (0, 1)


def added(one, other):
    """The sum of two Polys."""
    many = max(len(one.numbers), len(other.numbers))
    return Poly([plus(number_for(one, k), number_for(other, k)) for k in range(many)])


def multiplied(one, other):
    """The product of two Polys."""
    # Integers above one bottom need one reduction for each number of the product.
    tops, bottom = over_one_bottom(one.numbers)
    factors, below = over_one_bottom(other.numbers)
    found = [0] * (len(tops) + len(factors))
    for k, top in enumerate(tops):
        for n, factor in enumerate(factors):
            found[k + n] = found[k + n] + top * factor
    return Poly([(number, bottom * below) for number in found])


def divided(one, other):
    """The pair (quotient, rest) of Polys of one Poly divided by another one."""
    if other.degree() == -1:
        raise BadNumber("divisor", 0)
    rest = list(one.numbers)
    quotient = []
    while len(rest) > other.degree():
        # Both have their greatest power last, so the rest always loses its last number.
        factor = share(rest.pop(), other.numbers[-1])
        quotient.append(factor)
        start = len(rest) - other.degree()
        for k in range(other.degree()):
            rest[start + k] = minus(rest[start + k], times(factor, other.numbers[k]))
    return (Poly(quotient[::-1]), Poly(rest))


def lean(row):
    """A row of integers without zeros at its end and without a common divisor."""
    most = 0
    for number in row:
        most = gcd(most, number)
    return [number // most for number in row[:many_needed(row)]]


def lean_rest(row, divisor):
    """The lean row for the rest of one row, as a polynomial, divided by another one."""
    rest = list(row)
    last = divisor[-1]
    while len(rest) >= len(divisor):
        factor = rest.pop()
        start = len(rest) + 1 - len(divisor)
        rest = [number * last for number in rest]
        for k in range(len(divisor) - 1):
            rest[start + k] = rest[start + k] - factor * divisor[k]
    return lean(rest)


def common(one, other):
    """The Poly of the greatest degree that divides both, its last number being 1."""
    # Lean integers keep the numbers short; ratios would grow from rest to rest.
    row = lean(over_one_bottom(one.numbers)[0])
    divisor = lean(over_one_bottom(other.numbers)[0])
    while len(divisor) > 0:
        row, divisor = divisor, lean_rest(row, divisor)
    return Poly([share(number, row[-1]) for number in row])
