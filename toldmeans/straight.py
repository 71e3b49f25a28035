"""Questions about lines, answered exactly by shares with places at the knots of the question."""

from math import gcd, lcm

from toldmeans.errors import BadNumber, BadRow
from toldmeans.mixes import first_mix, parts_of, spare_of, weights_of, with_goal, without_spare
from toldmeans.ratios import lower, minus, plus, times
from toldmeans.rows import in_order, over_one_bottom
from toldmeans.shares import Told, check_one_stretch, functions_of, gathered
from toldmeans.sums import raised


class Scaled:
    """A mix of columns of ratios: each row times its step and each column times its size are the integers of the
    table, and so are the worths, each times its column's size and the length."""

    def __init__(self, table, steps, sizes, length):
        self.table = table
        self.steps = steps
        self.sizes = sizes
        self.length = length


class Question:
    """Functions by their values at knots, their bounds, and the mix of knots that keeps them, if any does.
    A bound is (index, side, number), side 0 for a least and 1 for a most."""

    def __init__(self, knots, many, bounds, mix, spare):
        self.knots = knots
        self.many = many
        self.bounds = bounds
        self.mix = mix
        self.spare = spare


def check_told_row(value):
    """The error of a value that is no tuple or list of Tolds."""
    if not isinstance(value, (tuple, list)) or not all([isinstance(row, Told) for row in value]):
        raise BadRow(value)


def check_degrees(functions):
    """The error of the first function that is no line."""
    for f in functions:
        if not f.is_line():
            raise BadNumber("degree", max([poly.degree() for poly in f.polys]))


def check_lines(rows, others):
    """The errors that the questions about lines share; others are the functions asked for."""
    check_told_row(rows)
    functions = functions_of(rows) + others
    check_one_stretch(functions)
    check_degrees(functions)


def row_step(row, number):
    """An integer that brings a row of pairs, and the number on its right, nearer to integers."""
    shared = 0
    for top, bottom in row:
        if top != 0:
            shared = gcd(shared, bottom)
    return lcm(max(1, shared), number[1])


def column_size(column):
    """The least integer above 0 that makes a column of pairs integers."""
    size = 1
    for _, bottom in column:
        size = lcm(size, bottom)
    return size


def times_each(row, by):
    """A row of ratios, each times a number."""
    return [times(number, by) for number in row]


def without_divisor(row, number, step):
    """A row of integers, the number on its right and its step, without a divisor that all of them share."""
    most = gcd(number, step)
    for item in row:
        most = gcd(most, item)
    return [item // most for item in row], number // most, step // most


def exact_mix(rows, right, starts):
    """The mix for which the spare number is as small as can be; the first rows, one for each start, are fixed."""
    # What a whole row shares goes into its step, what a knot brings into all rows into its column's size:
    # so the integers stay far shorter than with one bottom for each row.
    steps = [row_step(row, number) for row, number in zip(rows, right)]
    items = [times_each(row, step) for row, step in zip(rows, steps)]
    sizes = [column_size(column) for column in zip(*items)]
    made = []
    numbers = []
    for k, row in enumerate(items):
        tops = [times(item, size)[0] for item, size in zip(row, sizes)]
        tops, top, steps[k] = without_divisor(tops, times(right[k], steps[k])[0], steps[k])
        made.append(tops)
        numbers.append(top)
    spares = [0 for _ in starts] + steps[len(starts):]
    table = first_mix([list(column) for column in zip(*made)], numbers, spares, starts)
    table, _ = raised(with_goal(table, [0 for _ in sizes], -1))
    return Scaled(table, steps, sizes, 1)


def reached(mix, worths):
    """The mix, which keeps all bounds without the spare number, with the greatest worth."""
    tops, length = over_one_bottom([times(worth, size) for worth, size in zip(worths, mix.sizes)])
    table, _ = raised(with_goal(mix.table, tops, 0))
    return Scaled(table, mix.steps, mix.sizes, length)


def mix_parts(mix):
    """The pairs of a column's index and its part, for all parts above 0."""
    return [(column, times(part, mix.sizes[column])) for column, part in parts_of(mix.table)]


def mix_weights(mix):
    """The weights of all rows."""
    found = weights_of(mix.table, len(mix.steps))
    return [times(weight, (step, mix.length)) for weight, step in zip(found, mix.steps)]


def bounds_of(rows):
    """All bounds of a row of told means, in order."""
    found = []
    for index, row in enumerate(rows):
        if row.least is not None:
            found.append((index, 0, row.least))
        if row.most is not None:
            found.append((index, 1, row.most))
    return found


def knots_of(functions):
    """The knots of all functions, ascending."""
    return in_order([knot for f in functions for knot in f.knots])


def values_at(f, knots):
    """The values of a function at knots."""
    return [f.value(knot) for knot in knots]


def bound_row(values, side):
    """The row of values whose sum is to be at most a number, for a bound of this side."""
    if side == 1:
        return values
    return [(-top, bottom) for top, bottom in values]


def bound_number(number, side):
    """The number on the right of bound_row."""
    return number if side == 1 else times(-1, number)


def bound_rows(functions, bounds, knots):
    """The rows of all bounds, and the numbers on their right."""
    values = [values_at(f, knots) for f in functions]
    rows = [bound_row(values[index], side) for index, side, _ in bounds]
    return rows, [bound_number(number, side) for _, side, number in bounds]


def asked(functions, bounds, knots, shift):
    """The Question for a share at knots that keeps bounds, each first narrowed by a ratio."""
    rows, right = bound_rows(functions, bounds, knots)
    ones = [(1, 1) for _ in knots]
    mix = exact_mix([ones, *rows], [(1, 1)] + [minus(number, shift) for number in right], [0])
    spare = spare_of(mix.table)
    if spare == (0, 1):
        mix = Scaled(without_spare(mix.table), mix.steps, mix.sizes, 1)
    return Question(knots, len(functions), bounds, mix, spare)


def asked_rows(rows, knots):
    """The Question for a share at knots that fits a row of told means."""
    return asked(functions_of(rows), bounds_of(rows), knots, (0, 1))


def share_at(knots, parts):
    """The Share with parts of knots by their index, those of one knot together, in any order."""
    return gathered([knots[index] for index, _ in parts], [part for _, part in parts])


def share_of(question, mix):
    """The Share that a mix of a question's knots is."""
    return share_at(question.knots, mix_parts(mix))


def factors_of(bounds, weights, many):
    """The factors of a sum, from the weights of the bounds."""
    factors = [(0, 1) for _ in range(many)]
    for (index, side, _), weight in zip(bounds, weights):
        factors[index] = plus(factors[index], weight if side == 1 else times(-1, weight))
    return factors


def sum_for(question, mix):
    """The number and the factors of the sum that bounds a mix's worth."""
    weights = mix_weights(mix)
    return weights[0], factors_of(question.bounds, weights[1:], question.many)


def edge(question, across, upward):
    """The corners of the upper edge of all pairs of means of two functions, told by their values at the knots."""
    first, mix = farthest(question.mix, across, upward, (-1, 1), (0, 1))
    last, mix = farthest(mix, across, upward, (1, 1), (0, 1))
    if first[0] == last[0]:
        top, mix = farthest(mix, across, upward, (0, 1), (1, 1))
        return [top]
    waiting = [(first, last)]
    found = [first]
    while len(waiting) > 0:
        one, other = waiting.pop()
        right = minus(one[1], other[1])
        up = minus(other[0], one[0])
        new, mix = farthest(mix, across, upward, right, up)
        # Each new corner lies strictly farther out, so this comes to an end.
        if along(new, right, up) != along(one, right, up):
            waiting.append((new, other))
            waiting.append((one, new))
        else:
            found.append(other)
    return bends(found)


def along(point, right, up):
    """How far a point lies in a direction."""
    return plus(times(point[0], right), times(point[1], up))


def farthest(mix, across, upward, right, up):
    """The pair of means that lies farthest in a direction, and the mix that has it."""
    found = reached(mix, [along(point, right, up) for point in zip(across, upward)])
    one = (0, 1)
    other = (0, 1)
    for index, part in mix_parts(found):
        one = plus(one, times(across[index], part))
        other = plus(other, times(upward[index], part))
    return (one, other), found


def bends(points):
    """Of points from left to right, the highest ones at their places, without those that lie straight between."""
    found = []
    for point in points:
        if len(found) > 0 and found[-1][0] == point[0]:
            # At the left end the higher point comes later, at the right end it comes first.
            if lower(found[-1][1], point[1]):
                found[-1] = point
        else:
            while len(found) > 1 and is_straight(found[-2], found[-1], point):
                found.pop()
            found.append(point)
    return found


def is_straight(one, middle, other):
    """Whether three points lie on one straight line."""
    left = times(minus(middle[0], one[0]), minus(other[1], one[1]))
    return left == times(minus(other[0], one[0]), minus(middle[1], one[1]))
