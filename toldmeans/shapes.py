"""Even shares, and shares with one hump: greatest means to a gap of shares of a shape alone."""

from toldmeans.broken import Broken, constant, joined, pieces_on, scaled, shifted, total
from toldmeans.errors import BadName, BadNumber, BadRow, Unlike
from toldmeans.nears import Search, any_near, greatest_near
from toldmeans.ratios import gap_of, is_ratio, lower, minus, plus, share, times
from toldmeans.rows import (are_whole_parts, ascends, in_order, is_judged, is_judged_row, joint_sum, kept, pair_of,
                            told_row)
from toldmeans.shares import check_one_stretch, functions_of, gap_missed, gathered
from toldmeans.signs import Paper, is_paper, never_below
from toldmeans.straight import bounds_of
from toldmeans.strips import Family
from toldmeans.worths import is_sum, sum_less, worth_of

WORDS = ("any", "even", "hump", "even hump")


class Shape:
    """A word for what shares are asked, and the middle that they have, None for any."""

    def __init__(self, word, middle):
        if not isinstance(word, str) or word not in WORDS:
            raise BadName(word)
        if word == "any" and middle is not None:
            raise BadNumber("middle", middle)
        if word != "any" and not is_ratio(middle):
            raise BadNumber("middle", middle)
        self.word = word
        self.middle = None if word == "any" else pair_of(middle)

    def __eq__(self, other):
        return isinstance(other, Shape) and self.word == other.word and self.middle == other.middle


class Mixture:
    """The mixture of the simple shares of a shape at places, each with its part."""

    def __init__(self, shape, places, parts):
        self.shape = kept(shape)
        self.places = kept(places)
        self.parts = kept(parts)


class ShapedAbove:
    """A number that no share of the shape that fits has a greater mean than, a sum with papers that show it, and a
    mixture that fits but for the gap and comes as near."""

    def __init__(self, upper, number, factors, papers, mixture):
        self.upper = kept(upper)
        self.number = kept(number)
        self.factors = kept(factors)
        self.papers = kept(papers)
        self.mixture = kept(mixture)


class ShapedBarred:
    """A sum with papers that no share of the shape has a mean of it below 0, although its worth is."""

    def __init__(self, number, factors, papers):
        self.number = kept(number)
        self.factors = kept(factors)
        self.papers = kept(papers)


class ShapedFits:
    """A mixture that fits to the gap."""

    def __init__(self, mixture):
        self.mixture = kept(mixture)


def is_inside(middle, low, high):
    """Whether a value is a ratio strictly between low and high."""
    return is_ratio(middle) and lower(low, middle) and lower(middle, high)


def is_from_to(place, low, high):
    """Whether a value is a ratio from low to high."""
    return is_ratio(place) and not lower(place, low) and not lower(high, place)


def check_middle(shape, f):
    """The error of a shape on the stretch of a function."""
    low, high = f.knots[0], f.knots[-1]
    if shape.word == "hump" and not is_from_to(shape.middle, low, high):
        raise BadNumber("middle", shape.middle)
    if shape.word in ("even", "even hump") and not is_inside(shape.middle, low, high):
        raise BadNumber("middle", shape.middle)


def reach_of(f, middle):
    """The lesser one of the distances of a middle from both ends of the stretch."""
    left = minus(middle, f.knots[0])
    right = minus(f.knots[-1], middle)
    return left if lower(left, right) else right


def restricted(f, low, high):
    """The function on a part of its stretch."""
    knots = in_order([low, high] + [knot for knot in f.knots if is_inside(knot, low, high)])
    return Broken(knots, pieces_on(f, knots), [f.value(knot) for knot in knots])


def folded(f, middle):
    """Half of the values of f at middle + t and at middle - t together, at each t."""
    if not is_inside(middle, f.knots[0], f.knots[-1]):
        raise BadNumber("middle", middle)
    reach = reach_of(f, middle)
    right = restricted(shifted(f, middle, 1), 0, reach)
    left = restricted(shifted(f, middle, -1), 0, reach)
    return joined(scaled(total(right, left), (1, 2)))


def area(f, middle):
    """The area of f between the middle and each place."""
    if not is_from_to(middle, f.knots[0], f.knots[-1]):
        raise BadNumber("middle", middle)
    knots = in_order([*f.knots, middle])
    pieces = [poly.area() for poly in pieces_on(f, knots)]
    at = knots.index(pair_of(middle))
    polys = list(pieces)
    levels = [(0, 1) for _ in knots]
    for k in range(at, len(pieces)):
        polys[k] = pieces[k] + minus(levels[k], pieces[k].at(knots[k]))
        levels[k + 1] = polys[k].at(knots[k + 1])
    for k in reversed(range(at)):
        polys[k] = plus(levels[k + 1], pieces[k].at(knots[k + 1])) - pieces[k]
        levels[k] = polys[k].at(knots[k])
    return joined(Broken(knots, polys, levels))


def served(shape, f):
    """The functions that are all from 0 on exactly if the mean of f is, for all shares of the shape."""
    check_middle(shape, f)
    if shape.word == "any":
        return (f,)
    if shape.word == "even":
        return (folded(f, shape.middle),)
    number = f.value(shape.middle)
    if shape.word == "hump":
        return (area(f, shape.middle), constant(f.knots[0], f.knots[-1], number))
    return (area(folded(f, shape.middle), 0), constant(0, reach_of(f, shape.middle), number))


def mean_in(shape, row, place):
    """The mean of a function, told by what serves it, of the simple share at a place."""
    if shape.word in ("any", "even"):
        return row[0].value(place)
    distance = minus(place, shape.middle if shape.word == "hump" else 0)
    if distance == (0, 1):
        return row[1].value(place)
    return share(row[0].value(place), (abs(distance[0]), distance[1]))


def mean_at(shape, f, place):
    """The mean of f of the simple share at a place."""
    row = served(shape, f)
    knots = row[0].knots
    if not is_from_to(place, knots[0], knots[-1]):
        raise BadNumber("place", place)
    return mean_in(shape, row, place)


def mean_of(mixture, f):
    """The mean of f of a mixture."""
    row = served(mixture.shape, f)
    return joint_sum([mean_in(mixture.shape, row, place) for place in mixture.places],
                     told_row(mixture.parts))


def as_share(mixture):
    """The Share that a mixture is, None for one that is spread out."""
    if mixture.shape.word not in ("any", "even"):
        return None
    places = []
    parts = []
    for place, part in zip(mixture.places, mixture.parts):
        if mixture.shape.word == "any":
            places.append(pair_of(place))
            parts.append(pair_of(part))
        else:
            places.extend([minus(mixture.shape.middle, place), plus(mixture.shape.middle, place)])
            parts.extend([times(part, (1, 2)), times(part, (1, 2))])
    return gathered(places, parts)


def check_shaped(functions, shape, bits):
    """The errors that all questions for shares of a shape share, behind those of their functions."""
    check_middle(shape, functions[0])
    gap_of(bits)


def check_greatest(g, rows, shape, bits):
    """The errors of the questions for a greatest mean."""
    if not g.is_upper():
        raise Unlike("kind")
    check_one_stretch([g] + functions_of(rows))
    check_shaped([g], shape, bits)


def check_any(rows, shape, bits):
    """The errors of the questions whether any share fits."""
    check_one_stretch(functions_of(rows))
    if len(rows) == 0:
        raise BadRow(rows)
    check_shaped(functions_of(rows), shape, bits)


def zero_like(f):
    """The function 0 on the stretch of another one."""
    return constant(f.knots[0], f.knots[-1], 0)


def search_for(g, rows, shape):
    """The Search for the greatest mean of g of all shares of a shape."""
    weights = served(shape, constant(g.knots[0], g.knots[-1], 1))
    goals = served(shape, g)
    columns = [served(shape, f) for f in functions_of(rows)]
    places = range(len(goals))
    families = [Family(weights[k], [column[k] for column in columns], goals[k], (1,)) for k in places]
    return Search(families, bounds_of(rows), False)


def mixture_near(near, shape):
    """The Mixture of the parts that were found."""
    places = []
    for at, place, _ in near.parts:
        # All places of the second family stand for the middle.
        if at == 0:
            places.append(place)
        else:
            places.append(shape.middle if shape.word == "hump" else (0, 1))
    found = gathered(places, [part for _, _, part in near.parts])
    return Mixture(shape, found.places, found.parts)


def papers_of(f, shape):
    """The Papers of all that serves f, None if one of them is below 0 somewhere."""
    found = [never_below(one) for one in served(shape, f)]
    return found if all([isinstance(one, Paper) for one in found]) else None


def fits_shaped(mixture, rows, bits):
    """Whether a mixture fits the rows to the gap."""
    means = [mean_of(mixture, f) for f in functions_of(rows)]
    return not lower(gap_of(bits), gap_missed(means, rows))


def comes_near_shaped(mixture, g, rows, bits, upper):
    """Whether a mixture fits to the gap and has a mean of at least a number less the gap."""
    if lower(mean_of(mixture, g), minus(upper, gap_of(bits))):
        return False
    return fits_shaped(mixture, rows, bits)


def shaped_barred(near, rows, shape):
    """The ShapedBarred that was found, None where the numbers were not fine enough to make it exact."""
    papers = papers_of(sum_less(rows, near.number, near.factors, zero_like(rows[0].function)), shape)
    if papers is None or not lower(worth_of(rows, near.number, near.factors), 0):
        return None
    return ShapedBarred(pair_of(near.number), [pair_of(factor) for factor in near.factors], papers)


def shaped_above(near, g, rows, bits, mixture):
    """The ShapedAbove that was found, or None likewise."""
    papers = papers_of(sum_less(rows, near.number, near.factors, g), mixture.shape)
    upper = worth_of(rows, near.number, near.factors)
    if papers is None or not comes_near_shaped(mixture, g, rows, bits, upper):
        return None
    return ShapedAbove(upper, pair_of(near.number), [pair_of(factor) for factor in near.factors], papers, mixture)


def greatest_shaped(g, rows, shape, bits):
    """ShapedAbove or ShapedBarred for the greatest mean of a plain or an upper function of all shares of a shape."""
    check_greatest(g, rows, shape, bits)
    search = search_for(g, rows, shape)
    found = None
    finer = 0
    while found is None:
        near = greatest_near(search, bits, finer)
        if len(near.parts) == 0:
            found = shaped_barred(near, rows, shape)
        else:
            found = shaped_above(near, g, rows, bits, mixture_near(near, shape))
        finer = finer + 32
    return found


def any_shaped(rows, shape, bits):
    """ShapedFits or ShapedBarred for a row of told means of shares of a shape."""
    check_any(rows, shape, bits)
    search = search_for(zero_like(rows[0].function), rows, shape)
    found = None
    finer = 0
    while found is None:
        near = any_near(search, bits, finer)
        if len(near.parts) == 0:
            found = shaped_barred(near, rows, shape)
        elif fits_shaped(mixture_near(near, shape), rows, bits):
            found = ShapedFits(mixture_near(near, shape))
        finer = finer + 32
    return found


def are_papers(value, f, shape):
    """Whether a value within a judged one is a row of Papers, one for each function that serves f."""
    functions = served(shape, f)
    if not isinstance(value, tuple) or len(value) != len(functions):
        return False
    return all([is_paper(one, paper) for one, paper in zip(functions, value)])


def is_mixture(value, shape, f):
    """Whether a value within a judged one is a Mixture of the shape on the stretch of f."""
    if not isinstance(value, Mixture) or not isinstance(value.shape, Shape) or value.shape != shape:
        return False
    if not is_judged_row(value.places) or not is_judged_row(value.parts) or len(value.places) != len(value.parts):
        return False
    if len(value.places) == 0 or not ascends(value.places) or not are_whole_parts(value.parts):
        return False
    knots = served(shape, zero_like(f))[0].knots
    return is_from_to(value.places[0], knots[0], knots[-1]) and is_from_to(value.places[-1], knots[0], knots[-1])


def is_shaped_barred(rows, shape, found):
    """Whether a ShapedBarred is right."""
    # A sum over no rows is its worth, so it cannot be below 0 and have papers.
    if len(rows) == 0 or not is_sum(rows, found.number, found.factors):
        return False
    if not lower(worth_of(rows, found.number, found.factors), 0):
        return False
    return are_papers(found.papers, sum_less(rows, found.number, found.factors, zero_like(rows[0].function)), shape)


def is_shaped_above(g, rows, shape, bits, found):
    """Whether a ShapedAbove is right."""
    if not is_judged(found.upper) or not is_sum(rows, found.number, found.factors):
        return False
    if pair_of(found.upper) != worth_of(rows, found.number, found.factors):
        return False
    if not is_mixture(found.mixture, shape, g) or not comes_near_shaped(found.mixture, g, rows, bits, found.upper):
        return False
    return are_papers(found.papers, sum_less(rows, found.number, found.factors, g), shape)


def is_greatest_shaped(g, rows, shape, bits, told):
    """Whether any value is what greatest_shaped describes."""
    check_greatest(g, rows, shape, bits)
    if isinstance(told, ShapedBarred):
        return is_shaped_barred(rows, shape, told)
    return isinstance(told, ShapedAbove) and is_shaped_above(g, rows, shape, bits, told)


def is_any_shaped(rows, shape, bits, told):
    """Whether any value is what any_shaped describes."""
    check_any(rows, shape, bits)
    if isinstance(told, ShapedBarred):
        return is_shaped_barred(rows, shape, told)
    if not isinstance(told, ShapedFits) or not is_mixture(told.mixture, shape, rows[0].function):
        return False
    return fits_shaped(told.mixture, rows, bits)
