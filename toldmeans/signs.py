"""Signs everywhere: papers that show that broken functions are never below 0, and how low they are."""

from math import comb, gcd, lcm

from toldmeans.broken import constant, joined, total
from toldmeans.polys import Poly, common, divided
from toldmeans.ratios import floor_of, gap_of, halfway, lower, minus, times
from toldmeans.rows import ascends, is_judged_row, kept, over_one_bottom, told_row


class Split:
    """A Poly as rest * root * root, with cuts between which all corners of rest are from 0 on."""

    def __init__(self, root, rest, cuts):
        self.root = kept(root)
        self.rest = kept(rest)
        self.cuts = kept(cuts)


class Paper:
    """A split of each piece of a function that is never below 0."""

    def __init__(self, splits):
        self.splits = kept(splits)


class Below:
    """A place at which a function is below 0, and its value there."""

    def __init__(self, place, number):
        self.place = kept(place)
        self.number = kept(number)


class Floor:
    """A number that a function is never below, a paper of this, and a place at which it is hardly above it."""

    def __init__(self, number, paper, place):
        self.number = kept(number)
        self.paper = kept(paper)
        self.place = kept(place)


def moved_row(tops, start, step, bottom):
    """The integers tops, as a polynomial, at (start + step * s) / bottom: those for the powers of s, each times
    bottom as often as the degree."""
    found = []
    scale = 1
    for top in reversed(tops):
        found = [start * one + step * other for one, other in zip([*found, 0], [0, *found])]
        found[0] = found[0] + top * scale
        scale = scale * bottom
    return found


def corners(poly, low, high, degree=0):
    """The corners of a Poly from low to high, as of a degree that is perhaps above its own: integers, and the
    bottom above which they stand."""
    tops, below = over_one_bottom(poly.numbers)
    own = max(0, len(tops) - 1)
    most = max(own, degree)
    if len(tops) == 0:
        return [0 for _ in range(most + 1)], 1
    (start, step), bottom = over_one_bottom([low, minus(high, low)])
    row = moved_row(tops, start, step, bottom)
    for _ in range(own):
        below = below * bottom
    shared = 1
    for k in range(most):
        shared = lcm(shared, comb(most, k))
    parts = [number * shared // comb(most, k) for k, number in enumerate(row)]
    found = [sum([comb(k, n) * parts[n] for n in range(min(k, own) + 1)]) for k in range(most + 1)]
    return shortened(found, below * shared)


def shortened(row, bottom):
    """Integers and their bottom without a common divisor."""
    most = bottom
    for number in row:
        most = gcd(most, number)
    return [number // most for number in row], bottom // most


def halves(row, bottom):
    """The corners, each with their bottom, of the first and of the second half of a stretch."""
    first = []
    second = []
    now = row
    while len(now) > 0:
        first.append(now[0] << (len(now) - 1))
        second.append(now[-1] << (len(now) - 1))
        now = [one + other for one, other in zip(now, now[1:])]
    spread = bottom << (len(row) - 1)
    return shortened(first, spread), shortened(second[::-1], spread)


def half_root(poly):
    """The Poly with half as many of each factor as another one has, rounded down."""
    root = Poly((1,))
    if poly.degree() < 2:
        return root
    left = common(poly, poly.slope())
    once = divided(poly, left)[0]
    many = 1
    while once.degree() > 0:
        more = common(once, left)
        # This factor is in the Poly just so many times.
        factor = divided(once, more)[0]
        for _ in range(many // 2):
            root = root * factor
        once = more
        left = divided(left, more)[0]
        many = many + 1
    return root


def below_near(poly, place, far):
    """Below for a place between two ones, where the Poly is below 0 next to the first one."""
    near = halfway(place, far)
    while not lower(poly.at(near), 0):
        near = halfway(place, near)
    return Below(near, poly.at(near))


def split_or_below(poly, low, high):
    """A Split of a Poly from low to high, or a Below strictly between them."""
    # Without its even factors a Poly has no place where it only touches 0: halving comes to an end.
    root = half_root(poly)
    rest = divided(poly, root * root)[0]
    waiting = [(corners(rest, low, high), low, high)]
    ends = []
    while len(waiting) > 0:
        (row, bottom), begin, end = waiting.pop()
        if min(row) >= 0:
            ends.append(end)
        elif row[0] < 0:
            return below_near(poly, begin, end)
        elif row[-1] < 0:
            return below_near(poly, end, begin)
        else:
            first, second = halves(row, bottom)
            waiting.append((second, halfway(begin, end), end))
            waiting.append((first, begin, halfway(begin, end)))
    return Split(root, rest, ends[:-1])


def never_below(f):
    """Paper if a function is from 0 on at all places, Below if it is not."""
    short = joined(f)
    for knot, number in zip(short.knots, short.at):
        if lower(number, 0):
            return Below(knot, number)
    splits = []
    for k, poly in enumerate(short.polys):
        found = split_or_below(poly, short.knots[k], short.knots[k + 1])
        if isinstance(found, Below):
            return found
        splits.append(found)
    return Paper(splits)


def is_split(value, poly, low, high):
    """Whether a value is a split of a Poly from low to high."""
    if not isinstance(value, Split) or not isinstance(value.root, Poly) or not isinstance(value.rest, Poly):
        return False
    if not is_judged_row(value.cuts):
        return False
    ends = told_row([low, *value.cuts, high])
    if not ascends(ends) or value.rest * value.root * value.root != poly:
        return False
    return all([min(corners(value.rest, begin, end)[0]) >= 0 for begin, end in zip(ends, ends[1:])])


def is_paper(f, told):
    """Whether any value is a Paper of a function that is from 0 on at all places."""
    short = joined(f)
    if any([lower(number, 0) for number in short.at]):
        return False
    if not isinstance(told, Paper) or not isinstance(told.splits, tuple) or len(told.splits) != len(short.polys):
        return False
    places = range(len(short.polys))
    return all([is_split(told.splits[k], short.polys[k], short.knots[k], short.knots[k + 1]) for k in places])


def lowered(f, number):
    """A function less a ratio."""
    return total(f, constant(f.knots[0], f.knots[-1], times(-1, number)))


def gaps_below(f, bits):
    """The greatest number of gaps not above the function, or this number and one more."""
    many = min([floor_of(times(number, 1 << bits)) for number in f.at])
    waiting = []
    for k, poly in enumerate(f.polys):
        # In gaps as units, so that all below is about integers.
        waiting.append(corners(poly * (1 << bits), f.knots[k], f.knots[k + 1]))
    for row, bottom in waiting:
        many = min(many, row[0] // bottom, row[-1] // bottom)
    while len(waiting) > 0:
        row, bottom = waiting.pop()
        # Corners that are low by a quarter at most cannot be told from such as touch; a paper can tell.
        if 4 * min(row) < (4 * many - 1) * bottom:
            first, second = halves(row, bottom)
            many = min(many, second[0][0] // second[1])
            waiting.append(first)
            waiting.append(second)
    return many


def least(f, bits):
    """The Floor of a function to the gap of some bits."""
    gap = gap_of(bits)
    many = gaps_below(f, bits)
    number = times(many, gap)
    found = never_below(lowered(f, number))
    if isinstance(found, Below):
        number = times(many - 1, gap)
        return Floor(number, never_below(lowered(f, number)), found.place)
    above = never_below(lowered(f, times(many + 1, gap)))
    return Floor(number, found, above.place)
