"""Costs of orders at places, for shares, and as functions."""

from toldmeans.broken import Broken, joined
from toldmeans.errors import BadNumber
from toldmeans.polys import Poly
from toldmeans.ratios import is_ratio, lower, minus, plus, share, times
from toldmeans.rows import in_order, joint_sum
from toldmeans.shares import levels


def check_costs(over, under):
    """The errors of costs that are no ratios above 0."""
    if not is_ratio(over) or not lower(0, over):
        raise BadNumber("over", over)
    if not is_ratio(under) or not lower(0, under):
        raise BadNumber("under", under)


def cost_at(place, order, over, under):
    """The cost of an order at a place."""
    if lower(order, place):
        return times(under, minus(place, order))
    return times(over, minus(order, place))


def over_poly(order, over):
    """The Poly over * (order - x)."""
    return Poly((times(over, order), times(-1, over)))


def under_poly(order, under):
    """The Poly under * (x - order)."""
    return Poly((times(-1, times(under, order)), under))


def line_on(low, high, poly):
    """A Poly as a Broken on a stretch."""
    return Broken((low, high), (poly,), (poly.at(low), poly.at(high)))


def cost_function(low, high, order, over, under):
    """The cost of an order as a Broken on a stretch."""
    knots = in_order([low, high, order])
    polys = [under_poly(order, under) if not lower(knot, order) else over_poly(order, over) for knot in knots[:-1]]
    return joined(Broken(knots, polys, [cost_at(knot, order, over, under) for knot in knots]))


def mean_cost(places, parts, order, over, under):
    """The mean cost of an order for parts at places."""
    return joint_sum([cost_at(place, order, over, under) for place in places], parts)


def best_between(held, over, under):
    """The least and the greatest best order for a Share."""
    return levels(held, share(under, plus(over, under)))


def least_cost(held, over, under):
    """The least mean cost of all orders for a Share."""
    first, _ = best_between(held, over, under)
    return mean_cost(held.places, held.parts, first, over, under)
