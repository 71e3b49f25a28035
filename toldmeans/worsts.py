"""The least worst cost of all orders over rows of told means of lines, and the orders that have it, exactly."""

from toldmeans.broken import constant
from toldmeans.costs import cost_at, mean_cost
from toldmeans.mixes import without_spare
from toldmeans.ratios import lower, minus, plus, share, times
from toldmeans.rows import joint_sum, pair_of
from toldmeans.shares import functions_of
from toldmeans.straight import (Scaled, bound_rows, bounds_of, exact_mix, factors_of, knots_of, mix_parts, mix_weights,
                                reached, share_at)


class Worst:
    """The least worst cost, an order with it and the sum that shows it, and a share that bars a lesser one."""

    def __init__(self, cost, order, number, factors, held):
        self.cost = cost
        self.order = order
        self.number = number
        self.factors = factors
        self.held = held


def question_knots(rows, low, high):
    """The knots of all rows, and both ends of the stretch."""
    return knots_of(functions_of(rows) + [constant(low, high, 0)])


def clipped(number, low, high):
    """A ratio, or the end of the stretch that it lies beyond."""
    if lower(number, low):
        return pair_of(low)
    return pair_of(high) if lower(high, number) else pair_of(number)


def twofold_mix(rows, knots, over, under):
    """The mix in which each knot stands twice: for what an order above it costs there, and for what one below it
    does. Its second fixed row says that nothing is gained by moving the order."""
    found, right = bound_rows(functions_of(rows), bounds_of(rows), knots)
    ones = [(1, 1) for _ in knots + knots]
    moves = [pair_of(over) for _ in knots] + [times(-1, under) for _ in knots]
    doubled = [row + row for row in found]
    mix = exact_mix([ones, moves, *doubled], [(1, 1), (0, 1), *right], [0, len(knots)])
    return Scaled(without_spare(mix.table), mix.steps, mix.sizes, 1)


def worst_over(rows, low, high, over, under):
    """The Worst of rows that some share fits."""
    knots = question_knots(rows, low, high)
    worths = [times(times(-1, over), knot) for knot in knots] + [times(under, knot) for knot in knots]
    mix = reached(twofold_mix(rows, knots, over, under), worths)
    parts = mix_parts(mix)
    cost = joint_sum([worths[index] for index, _ in parts], [part for _, part in parts])
    weights = mix_weights(mix)
    # Where an order beyond an end is as good, so is the end.
    order = clipped(times(-1, weights[1]), low, high)
    factors = factors_of(bounds_of(rows), weights[2:], len(rows))
    return Worst(cost, order, weights[0], factors, share_at(knots + knots, parts))


def first_within(held, ahead, order, most, costs):
    """The first order behind another one, along places ahead of it, with a mean cost of at most a number."""
    over, under = costs
    number = mean_cost(held.places, held.parts, order, over, under)
    for place in ahead:
        there = mean_cost(held.places, held.parts, place, over, under)
        if not lower(most, there):
            # From each place to the next one the mean cost is straight.
            way = share(minus(number, most), minus(number, there))
            return plus(order, times(way, minus(place, order)))
        order = place
        number = there
    return order


def best_from(question, most, order, costs, forward):
    """The first order from an end of the stretch on, forward or not, with a worst cost of at most the least one."""
    over, under = costs
    mix = question.mix
    while True:
        mix = reached(mix, [cost_at(knot, order, over, under) for knot in question.knots])
        held = share_at(question.knots, mix_parts(mix))
        if not lower(most, mean_cost(held.places, held.parts, order, over, under)):
            return order
        if forward:
            ahead = [place for place in held.places if lower(order, place)]
        else:
            ahead = [place for place in held.places[::-1] if lower(place, order)]
        # This share alone bars all orders ahead of the next one.
        order = first_within(held, ahead, order, most, costs)
