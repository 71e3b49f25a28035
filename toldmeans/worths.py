"""Sums over rows of told means: a number, and a factor for each function."""

from toldmeans.broken import Broken, pieces_on
from toldmeans.polys import Poly
from toldmeans.ratios import lower, plus, times
from toldmeans.rows import in_order, is_judged, is_judged_row, joint_sum, pair_of


def worth_of(rows, number, factors):
    """The worth of a sum: what its mean is at most, for each share that fits the rows."""
    total = pair_of(number)
    for row, factor in zip(rows, factors):
        if lower(0, factor):
            total = plus(total, times(factor, row.most))
        elif lower(factor, 0):
            total = plus(total, times(factor, row.least))
    return total


def is_sum(rows, number, factors):
    """Whether values within a judged one tell a sum over the rows."""
    if not is_judged(number) or not is_judged_row(factors) or len(factors) != len(rows):
        return False
    for row, factor in zip(rows, factors):
        if lower(0, factor) and row.most is None:
            return False
        if lower(factor, 0) and row.least is None:
            return False
    return True


def weighted(functions, factors, number, low, high):
    """A number, and functions on the stretch from low to high, each times its factor, added up."""
    used = []
    for f, factor in zip(functions, factors):
        if pair_of(factor) != (0, 1):
            used.append((f, pair_of(factor)))
    knots = in_order([low, high] + [knot for f, _ in used for knot in f.knots])
    polys = [Poly((number,)) for _ in knots[1:]]
    at = [pair_of(number) for _ in knots]
    for f, factor in used:
        polys = [poly + piece * factor for poly, piece in zip(polys, pieces_on(f, knots))]
        at = [plus(one, times(factor, f.value(knot))) for one, knot in zip(at, knots)]
    return Broken(knots, polys, at)


def sum_less(rows, number, factors, g):
    """A sum over rows of told means less a function on their stretch."""
    functions = [row.function for row in rows] + [g]
    return weighted(functions, [*factors, -1], number, g.knots[0], g.knots[-1])


def sum_at(rows, number, factors, place):
    """The value of a sum at a place."""
    values = [row.function.value(place) for row in rows]
    return joint_sum([pair_of(number), *values], [(1, 1)] + [pair_of(factor) for factor in factors])
