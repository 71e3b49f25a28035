"""Families of functions by integers, piece by piece: where a sum of them is lowest, near enough for the next step.

All integers stand above 2 ** bits for some bits; nothing here is exact, and nothing here is told.
"""

from toldmeans.broken import pieces_on
from toldmeans.polys import Poly, divided
from toldmeans.ratios import floor_of, minus, plus, share, times
from toldmeans.rows import in_order
from toldmeans.signs import corners


class Family:
    """Functions on one stretch: the rows less the goal are judged by their quotients with the weight, which is from
    0 on, at all places at which it is above 0. Fixed are the items of the family's columns in the fixed rows."""

    def __init__(self, weight, rows, goal, fixed):
        self.weight = weight
        self.rows = rows
        self.goal = goal
        self.fixed = fixed
        self.knots = in_order([knot for f in [weight, goal, *rows] for knot in f.knots])


class Strip:
    """The corners of a family from one knot to the next one, those of the weight above 0."""

    def __init__(self, low, high, weight, goal, rows):
        self.low = low
        self.high = high
        self.weight = weight
        self.goal = goal
        self.rows = rows


def root_at(weight, low, high):
    """The Poly that is to be divided out where the weight is 0 at an end; None where it is not."""
    if weight.at(low) == (0, 1):
        return Poly((times(-1, low), 1))
    if weight.at(high) == (0, 1):
        return Poly((high, -1))
    return None


def strip_of(low, high, polys, bits):
    """The Strip of the Polys of the weight, the goal and the rows."""
    root = root_at(polys[0], low, high)
    if root is not None:
        polys = [divided(poly, root)[0] for poly in polys]
    degree = max([0] + [poly.degree() for poly in polys])
    found = [corners(poly, low, high, degree) for poly in polys]
    tops, bottom = found[0]
    # Quotients stay the same when all is divided by the least weight, and near a weight of 0 none gets lost.
    least = min(tops)
    scaled = [[(top << bits) * bottom // (below * least) for top in row] for row, below in found]
    return Strip(low, high, scaled[0], scaled[1], scaled[2:])


def strips_of(family, bits):
    """The Strips of a family."""
    knots = family.knots
    pieces = [pieces_on(f, knots) for f in [family.weight, family.goal, *family.rows]]
    places = range(len(knots) - 1)
    return [strip_of(knots[k], knots[k + 1], [polys[k] for polys in pieces], bits) for k in places]


def quotients_at(family, place, bits):
    """The integers for the goal and the rows, each divided by the weight, at a place."""
    weight = times(family.weight.value(place), (1, 1 << bits))
    return [floor_of(share(f.value(place), weight)) for f in [family.goal, *family.rows]]


def lowered_rows(strip, factors, shift, aims):
    """The corners of the rows, each times its factor, added up, less 2 ** shift times the goal, or without it."""
    found = [-(number << shift) if aims else 0 for number in strip.goal]
    for factor, row in zip(factors, strip.rows):
        if factor != 0:
            found = [number + factor * other for number, other in zip(found, row)]
    return found


def halved(row):
    """The corners, each 2 ** degree times too great, of the first and of the second half."""
    first = []
    second = []
    now = row
    while len(now) > 0:
        first.append(now[0] << (len(now) - 1))
        second.append(now[-1] << (len(now) - 1))
        now = [one + other for one, other in zip(now, now[1:])]
    return first, second[::-1]


def deepest(row, weight, ceiling, slack):
    """A number that no quotient is below, and, if some quotients are below the ceiling, one that is nearly the least,
    with its place told by a top and a depth: (2 * top + 1) / 2 ** (depth + 1) of the way; otherwise None."""
    waiting = [(row, weight, 0, 0)]
    floor = None
    best = None
    # Where the least quotient is the ceiling itself, halving would not come to an end without some slack.
    mark = ceiling - slack
    while len(waiting) > 0:
        now, by, top, depth = waiting.pop()
        bound = min([one // other for one, other in zip(now, by)])
        if bound >= mark:
            floor = bound if floor is None else min(floor, bound)
        else:
            first, second = halved(now)
            one, other = halved(by)
            value = second[0] // other[0]
            if value < ceiling and (best is None or value < best[0]):
                best = (value, top, depth)
                # What is far too low need not be found more sharply than by a part of itself.
                mark = value - max(slack, (ceiling - value) >> 3)
            waiting.append((second, other, 2 * top + 1, depth + 1))
            waiting.append((first, one, 2 * top, depth + 1))
    return floor, best


def place_on(strip, top, depth):
    """The place that deepest tells."""
    step = times(minus(strip.high, strip.low), (2 * top + 1, 2 << depth))
    return plus(strip.low, step)
