"""Greatest means of broken functions to a gap, and whether any share fits, with papers that show it."""

from toldmeans.broken import constant
from toldmeans.errors import BadRow, Unlike
from toldmeans.nears import Search, any_near, greatest_near
from toldmeans.ratios import gap_of, lower, minus
from toldmeans.rows import is_judged, kept, pair_of
from toldmeans.shares import Share, check_one_stretch, functions_of, gap_missed, gathered, is_within, means_of
from toldmeans.signs import Paper, is_paper, never_below
from toldmeans.straight import bounds_of
from toldmeans.strips import Family
from toldmeans.worths import is_sum, sum_less, worth_of


class Above:
    """A number that no share that fits has a greater mean than, a sum with a paper that shows it, and a share that
    fits but for the gap and comes as near."""

    def __init__(self, upper, number, factors, paper, share):
        self.upper = kept(upper)
        self.number = kept(number)
        self.factors = kept(factors)
        self.paper = kept(paper)
        self.share = kept(share)


class Barred:
    """A sum that is never below 0, with a paper of this, although its worth is: so no share fits."""

    def __init__(self, number, factors, paper):
        self.number = kept(number)
        self.factors = kept(factors)
        self.paper = kept(paper)


class Fits:
    """A share that fits to the gap."""

    def __init__(self, share):
        self.share = kept(share)


def check_goal(g, rows):
    """The errors of a function whose greatest mean is asked for, and of a row beside it."""
    if not g.is_upper():
        raise Unlike("kind")
    check_one_stretch([g] + functions_of(rows))


def check_some(rows):
    """The errors of a row that is to have at least one told mean."""
    check_one_stretch(functions_of(rows))
    if len(rows) == 0:
        raise BadRow(rows)


def search_for(g, rows):
    """The Search for the greatest mean of a function of all shares on its stretch."""
    one = constant(g.knots[0], g.knots[-1], 1)
    return Search([Family(one, functions_of(rows), g, (1,))], bounds_of(rows), False)


def zero_on(rows):
    """The function 0 on the stretch of a row."""
    knots = rows[0].function.knots
    return constant(knots[0], knots[-1], 0)


def share_near(near):
    """The Share of the parts that were found."""
    return gathered([place for _, place, _ in near.parts], [part for _, _, part in near.parts])


def barred_by(near, rows):
    """The Barred that was found, None where the numbers were not fine enough to make it exact."""
    paper = never_below(sum_less(rows, near.number, near.factors, zero_on(rows)))
    if not isinstance(paper, Paper) or not lower(worth_of(rows, near.number, near.factors), (0, 1)):
        return None
    return Barred(pair_of(near.number), [pair_of(factor) for factor in near.factors], paper)


def above_by(near, g, rows, bits):
    """The Above that was found, or None likewise."""
    paper = never_below(sum_less(rows, near.number, near.factors, g))
    share = share_near(near)
    upper = worth_of(rows, near.number, near.factors)
    if not isinstance(paper, Paper) or not comes_near(share, g, rows, bits, upper):
        return None
    return Above(upper, pair_of(near.number), [pair_of(factor) for factor in near.factors], paper, share)


def fits_near(share, rows, bits):
    """Whether a share on the stretch fits the rows to the gap."""
    return not lower(gap_of(bits), gap_missed(means_of(share, functions_of(rows)), rows))


def comes_near(share, g, rows, bits, upper):
    """Whether a share on the stretch fits to the gap and has a mean of at least a number less the gap."""
    if lower(means_of(share, [g])[0], minus(upper, gap_of(bits))):
        return False
    return fits_near(share, rows, bits)


def greatest_mean(g, rows, bits):
    """Above or Barred for the greatest mean of a plain or an upper function."""
    check_goal(g, rows)
    gap_of(bits)
    search = search_for(g, rows)
    found = None
    finer = 0
    while found is None:
        near = greatest_near(search, bits, finer)
        found = barred_by(near, rows) if len(near.parts) == 0 else above_by(near, g, rows, bits)
        finer = finer + 32
    return found


def any_fit(rows, bits):
    """Fits or Barred for a row of told means."""
    check_some(rows)
    gap_of(bits)
    search = search_for(zero_on(rows), rows)
    found = None
    finer = 0
    while found is None:
        near = any_near(search, bits, finer)
        if len(near.parts) == 0:
            found = barred_by(near, rows)
        elif fits_near(share_near(near), rows, bits):
            found = Fits(share_near(near))
        finer = finer + 32
    return found


def is_share_on(value, knots):
    """Whether a value is a Share with its places on the stretch of knots."""
    return isinstance(value, Share) and is_within(value, knots[0], knots[-1])


def is_barred_by(rows, found):
    """Whether a Barred is right."""
    # A sum over no rows is its worth, so it cannot be below 0 and have a paper.
    if len(rows) == 0 or not is_sum(rows, found.number, found.factors):
        return False
    if not lower(worth_of(rows, found.number, found.factors), 0):
        return False
    return is_paper(sum_less(rows, found.number, found.factors, zero_on(rows)), found.paper)


def is_above_by(g, rows, bits, found):
    """Whether an Above is right."""
    if not is_judged(found.upper) or not is_sum(rows, found.number, found.factors):
        return False
    if pair_of(found.upper) != worth_of(rows, found.number, found.factors):
        return False
    if not is_share_on(found.share, g.knots) or not comes_near(found.share, g, rows, bits, found.upper):
        return False
    return is_paper(sum_less(rows, found.number, found.factors, g), found.paper)


def is_above(g, rows, bits, told):
    """Whether any value is what greatest_mean describes."""
    check_goal(g, rows)
    gap_of(bits)
    if isinstance(told, Barred):
        return is_barred_by(rows, told)
    return isinstance(told, Above) and is_above_by(g, rows, bits, told)


def is_any_fit(rows, bits, told):
    """Whether any value is what any_fit describes."""
    check_some(rows)
    gap_of(bits)
    if isinstance(told, Barred):
        return is_barred_by(rows, told)
    if not isinstance(told, Fits) or not is_share_on(told.share, rows[0].function.knots):
        return False
    return fits_near(told.share, rows, bits)
