"""Orders and their costs: the best ones for a share, and those with the least worst cost for all shares that fit."""

from toldmeans.broken import constant
from toldmeans.costs import (best_between, check_costs, cost_function, least_cost, line_on, mean_cost, over_poly,
                             under_poly)
from toldmeans.errors import BadInterval, BadNumber, Unlike
from toldmeans.lines import NoShare, is_no_share, no_share
from toldmeans.means import Barred, barred_by, fits_near, is_barred_by, is_share_on, share_near
from toldmeans.nears import Search, greatest_near
from toldmeans.ratios import floor_of, gap_of, is_ratio, lower, minus, times
from toldmeans.rows import is_judged, kept, pair_of
from toldmeans.shares import functions_of, gap_missed, means_of
from toldmeans.signs import Paper, is_paper, never_below
from toldmeans.straight import asked_rows, bounds_of, check_degrees, check_told_row
from toldmeans.strips import Family
from toldmeans.worsts import best_from, clipped, question_knots, worst_over
from toldmeans.worths import is_sum, sum_at, sum_less, worth_of

# The fixed row of a near order tells over and under by integers above 2 ** FINE.
FINE = 100


class Best:
    """The least mean cost of all orders, and the least and the greatest order that has it."""

    def __init__(self, cost, first, last):
        self.cost = kept(cost)
        self.first = kept(first)
        self.last = kept(last)


class Orders:
    """The least worst cost, an order with it, a sum that bars a greater cost of it, and a share for which no order
    costs less."""

    def __init__(self, cost, order, number, factors, share):
        self.cost = kept(cost)
        self.order = kept(order)
        self.number = kept(number)
        self.factors = kept(factors)
        self.share = kept(share)


class NearOrder:
    """An order, a number that it never costs more than, with a sum and papers that show it, and a share that fits to
    the gap for which no order costs less but for the gap."""

    def __init__(self, order, upper, number, factors, papers, share):
        self.order = kept(order)
        self.upper = kept(upper)
        self.number = kept(number)
        self.factors = kept(factors)
        self.papers = kept(papers)
        self.share = kept(share)


def check_stretch_told(low, high):
    """The error of two values that are not the ends of a stretch."""
    if not is_ratio(low) or not is_ratio(high) or not lower(low, high):
        raise BadInterval(low, high)


def check_rows(rows, low, high, over, under):
    """The errors of questions for the worst cost."""
    check_costs(over, under)
    check_stretch_told(low, high)
    check_told_row(rows)
    for f in functions_of(rows):
        if f.knots[0] != pair_of(low) or f.knots[-1] != pair_of(high):
            raise Unlike("stretch")


def cost_line(low, high, order, over, under):
    """The cost of an order as a plain function."""
    check_costs(over, under)
    check_stretch_told(low, high)
    if not is_ratio(order) or lower(order, low) or lower(high, order):
        raise BadNumber("order", order)
    return cost_function(low, high, order, over, under)


def cost_of(share, order, over, under):
    """The mean cost of an order for a share."""
    check_costs(over, under)
    if not is_ratio(order):
        raise BadNumber("order", order)
    return mean_cost(share.places, share.parts, order, over, under)


def best_orders(share, over, under):
    """The Best of all orders for a share."""
    check_costs(over, under)
    first, last = best_between(share, over, under)
    return Best(mean_cost(share.places, share.parts, first, over, under), first, last)


def least_worst(rows, low, high, over, under):
    """Orders or NoShare for the order with the least worst cost over rows of lines."""
    check_rows(rows, low, high, over, under)
    check_degrees(functions_of(rows))
    question = asked_rows(rows, question_knots(rows, low, high))
    if question.spare != (0, 1):
        return no_share(question)
    found = worst_over(rows, low, high, over, under)
    return Orders(found.cost, found.order, found.number, found.factors, found.held)


def best_stretch(rows, low, high, over, under):
    """The least and the greatest order with the least worst cost; or NoShare."""
    check_rows(rows, low, high, over, under)
    check_degrees(functions_of(rows))
    question = asked_rows(rows, question_knots(rows, low, high))
    if question.spare != (0, 1):
        return no_share(question)
    cost = worst_over(rows, low, high, over, under).cost
    first = best_from(question, cost, pair_of(low), (over, under), True)
    return (first, best_from(question, cost, pair_of(high), (over, under), False))


def is_order_on(value, low, high):
    """Whether a value within a judged one is an order from low to high."""
    return is_judged(value) and not lower(value, low) and not lower(high, value)


def costs_at_most(rows, found, knots, over, under):
    """Whether the sum that is told bounds the cost of the order that is told at all knots, and so everywhere."""
    one = over_poly(found.order, over)
    other = under_poly(found.order, under)
    for knot in knots:
        number = sum_at(rows, found.number, found.factors, knot)
        if lower(number, one.at(knot)) or lower(number, other.at(knot)):
            return False
    return True


def is_orders(rows, low, high, over, under, told):
    """Whether any value is what least_worst describes."""
    check_rows(rows, low, high, over, under)
    check_degrees(functions_of(rows))
    knots = question_knots(rows, low, high)
    if isinstance(told, NoShare):
        return is_no_share(rows, told, knots)
    if not isinstance(told, Orders) or not is_judged(told.cost) or not is_order_on(told.order, low, high):
        return False
    if not is_sum(rows, told.number, told.factors) or not is_share_on(told.share, knots):
        return False
    if worth_of(rows, told.number, told.factors) != pair_of(told.cost):
        return False
    if gap_missed(means_of(told.share, functions_of(rows)), rows) != (0, 1):
        return False
    if lower(least_cost(told.share, over, under), told.cost):
        return False
    return costs_at_most(rows, told, knots, over, under)


def order_search(rows, low, high, over, under):
    """The Search for the greatest number such that some share has no order that costs less."""
    one = constant(low, high, 1)
    functions = functions_of(rows)
    above = floor_of(times(over, 1 << FINE))
    below = floor_of(times(under, 1 << FINE))
    families = [Family(one, functions, line_on(low, high, over_poly(0, over)), (1, above)),
                Family(one, functions, line_on(low, high, under_poly(0, under)), (1, -below))]
    return Search(families, bounds_of(rows), True)


def sums_above(rows, low, high, found, over, under):
    """The sum that is told less the cost that the order that is told has below it, and less that above it."""
    lines = (line_on(low, high, over_poly(found.order, over)), line_on(low, high, under_poly(found.order, under)))
    return [sum_less(rows, found.number, found.factors, line) for line in lines]


def near_order_by(near, rows, stretch, costs, bits):
    """The NearOrder that was found, None where the numbers were not fine enough to make it exact."""
    low, high = stretch
    over, under = costs
    fine = 1 << (bits + 40)
    order = floor_of(times(near.others[0], -(fine << FINE)))
    factors = [pair_of(factor) for factor in near.factors]
    upper = worth_of(rows, near.number, factors)
    found = NearOrder(clipped((order, fine), low, high), upper, pair_of(near.number), factors, (), share_near(near))
    papers = [never_below(f) for f in sums_above(rows, low, high, found, over, under)]
    if not all([isinstance(paper, Paper) for paper in papers]) or not bars_less(rows, found, over, under, bits):
        return None
    return NearOrder(found.order, upper, found.number, factors, papers, found.share)


def bars_less(rows, found, over, under, bits):
    """Whether the share that is told fits to the gap, and no order costs less for it but for the gap."""
    if not fits_near(found.share, rows, bits):
        return False
    return not lower(least_cost(found.share, over, under), minus(found.upper, gap_of(bits)))


def near_order(rows, low, high, over, under, bits):
    """NearOrder or Barred for the order with the least worst cost, to a gap."""
    check_rows(rows, low, high, over, under)
    gap_of(bits)
    search = order_search(rows, low, high, over, under)
    found = None
    finer = 0
    while found is None:
        near = greatest_near(search, bits, finer)
        if len(near.parts) == 0:
            found = barred_by(near, rows)
        else:
            found = near_order_by(near, rows, (low, high), (over, under), bits)
        finer = finer + 32
    return found


def is_near_order(rows, low, high, over, under, bits, told):
    """Whether any value is what near_order describes."""
    check_rows(rows, low, high, over, under)
    gap_of(bits)
    if isinstance(told, Barred):
        return is_barred_by(rows, told)
    if not isinstance(told, NearOrder) or not is_judged(told.upper) or not is_order_on(told.order, low, high):
        return False
    if not is_sum(rows, told.number, told.factors) or not is_share_on(told.share, (low, high)):
        return False
    if worth_of(rows, told.number, told.factors) != pair_of(told.upper):
        return False
    if not bars_less(rows, told, over, under, bits):
        return False
    if not isinstance(told.papers, tuple) or len(told.papers) != 2:
        return False
    functions = sums_above(rows, low, high, told, over, under)
    return all([is_paper(f, paper) for f, paper in zip(functions, told.papers)])
