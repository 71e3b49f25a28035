"""Shares, told means and sums over them for several test files, and what [18], [20] and [31] say of them, reckoned
once more with Fractions."""

from fractions import Fraction

from helpers import are_told, fraction, in_any_terms, is_told, pair
from test_broken import knots_of, limits_at, places_of, value_at, value_of
from toldmeans.broken import Broken, constant, scaled, total
from toldmeans.polys import Poly
from toldmeans.shares import Share, Told

KINDS = ("plain", "upper", "lower")

# Bits that are none.
NO_BITS = (-1, 61, True, False, None, "0", 0.0, (0, 1), [3], 10 ** 30, Fraction(3), object())


def poly_through(places, numbers):
    """The Poly of the least degree with these values at these Fractions."""
    found = Poly(())
    for k, (place, number) in enumerate(zip(places, numbers)):
        part = Poly((pair(number),))
        for n, other in enumerate(places):
            if n != k:
                part = part * Poly((pair(-other), 1)) * pair(1 / (place - other))
        found = found + part
    return found


def some_knots_on(source, low, high, many):
    inner = {low + (high - low) * Fraction(source.randint(1, 35), 36) for _ in range(many)}
    return sorted(inner | {low, high})


def some_number(source, size=5, bottom=4):
    return Fraction(source.randint(-size * bottom, size * bottom), bottom)


def some_pieces(source, knots, kind, degree):
    """Polys between knots; those of a plain function meet at the knots."""
    polys = []
    at = some_number(source)
    for low, high in zip(knots, knots[1:]):
        many = source.randint(0, degree)
        numbers = [some_number(source) for _ in range(many + 1)]
        if kind == "plain":
            numbers[0] = at
        polys.append(poly_through([low + (high - low) * Fraction(k, max(1, many)) for k in range(many + 1)], numbers))
        at = value_of(polys[-1], high)
    return polys


def some_function_on(source, low, high, kind, degree=1, inner=3):
    """A function of a kind on a stretch, with jumps and numbers of its own at knots unless it is plain."""
    knots = some_knots_on(source, low, high, source.randint(0, inner))
    polys = some_pieces(source, knots, kind, degree)
    at = []
    for k, knot in enumerate(knots):
        limits = [value_of(poly, knot) for poly in polys[max(0, k - 1):k + 1]]
        more = 0 if kind == "plain" else source.choice((0, 0, 1))
        at.append(min(limits) - more if kind == "lower" else max(limits) + more)
    return Broken([in_any_terms(source, knot) for knot in knots], polys, [in_any_terms(source, n) for n in at])


def some_share_on(source, low, high, many):
    places = sorted({low + (high - low) * Fraction(source.randint(0, 36), 36) for _ in range(many)})
    parts = [source.randint(1, 7) for _ in places]
    return Share([in_any_terms(source, place) for place in places],
                 [in_any_terms(source, Fraction(part, sum(parts))) for part in parts])


def mean_by(share, f):
    return sum(fraction(part) * value_at(f, fraction(place)) for place, part in zip(share.places, share.parts))


def told_around(source, f, number, room):
    """A Told that a mean keeps, with this much room; with room below 0, that it does not keep."""
    sides = source.choice(((1, 0), (0, 1), (1, 1), (1, 1)))
    least = number - room if sides[0] and f.is_upper() else None
    most = number + room if sides[1] and f.is_lower() else None
    if least is None and most is None:
        least, most = (number - room, None) if f.is_upper() else (None, number + room)
    if least is not None and most is not None and most < least:
        most = least
    return Told(f, least if least is None else in_any_terms(source, least),
                most if most is None else in_any_terms(source, most))


def some_rows(source, low, high, many, share, rooms, degree=1, inner=3):
    """A row of told means of all kinds, around the means of a share."""
    rows = []
    for _ in range(many):
        f = some_function_on(source, low, high, source.choice(("plain",) + KINDS), degree, inner)
        rows.append(told_around(source, f, mean_by(share, f), source.choice(rooms)))
    return source.choice((tuple, list))(rows)


ROOMS = ((0,), (0, Fraction(1, 7), 1), (Fraction(1, 10),), (Fraction(-1, 2), 0, 1), (-1, Fraction(-1, 3)))


def some_question(source, most_rows=6, degree=1, inner=3):
    """A stretch, and a row of told means on it; some share fits about two thirds of them."""
    low = Fraction(source.randint(-3, 0), source.choice((1, 2)))
    high = Fraction(source.randint(1, 5), source.choice((1, 3)))
    share = some_share_on(source, low, high, source.randint(1, 6))
    rows = some_rows(source, low, high, source.randint(0, most_rows), share, source.choice(ROOMS), degree, inner)
    return low, high, rows


def missed_by(share, rows):
    """The least number to which a share fits, by [20]."""
    found = Fraction(0)
    for row in rows:
        number = mean_by(share, row.function)
        if row.least is not None:
            found = max(found, fraction(row.least) - number)
        if row.most is not None:
            found = max(found, number - fraction(row.most))
    return found


def check_share(test, share, low, high):
    """That a share is one, as they are told, on a stretch."""
    test.assertIs(share.__class__, Share)
    test.assertTrue(are_told(share.places) and are_told(share.parts))
    places = [fraction(place) for place in share.places]
    test.assertEqual(sorted(set(places)), places)
    test.assertEqual(len(share.parts), len(places))
    test.assertGreater(min(fraction(part) for part in share.parts), 0)
    test.assertEqual(sum(fraction(part) for part in share.parts), 1)
    test.assertTrue(low <= places[0] and places[-1] <= high)


def check_share_at_knots(test, share, functions):
    knots = sorted({knot for f in functions for knot in knots_of(f)})
    check_share(test, share, knots[0], knots[-1])
    test.assertLessEqual({fraction(place) for place in share.places}, set(knots))


def check_sum(test, rows, number, factors):
    """That a number and factors tell a sum over rows, as they are told."""
    test.assertTrue(is_told(number) and are_told(factors))
    test.assertEqual(len(factors), len(rows))
    for row, factor in zip(rows, factors):
        test.assertFalse(factor[0] > 0 and row.most is None)
        test.assertFalse(factor[0] < 0 and row.least is None)


def worth_by(rows, number, factors):
    """The worth of a sum, by [31]."""
    found = fraction(number)
    for row, factor in zip(rows, factors):
        if factor[0] > 0:
            found += fraction(factor) * fraction(row.most)
        if factor[0] < 0:
            found += fraction(factor) * fraction(row.least)
    return found


def check_lines_above(test, rows, number, factors, others):
    """That a sum over rows of lines is at least each of other lines at all places, by its values and limits at all
    knots."""
    functions = [row.function for row in rows] + others
    for place in sorted({knot for f in functions for knot in knots_of(f)}):
        at = fraction(number)
        left = right = fraction(number)
        for row, factor in zip(rows, factors):
            limits = limits_at(row.function, place)
            at += fraction(factor) * value_at(row.function, place)
            left = None if limits[0] is None or left is None else left + fraction(factor) * limits[0]
            right = None if limits[1] is None or right is None else right + fraction(factor) * limits[1]
        for other in others:
            limits = limits_at(other, place)
            test.assertGreaterEqual(at, value_at(other, place))
            for one, limit in ((left, limits[0]), (right, limits[1])):
                if one is not None and limit is not None:
                    test.assertGreaterEqual(one, limit)


def sum_broken(rows, number, factors, low, high):
    """The Broken that a sum over rows is."""
    found = constant(pair(low), pair(high), number)
    for row, factor in zip(rows, factors):
        found = total(found, scaled(row.function, factor))
    return found


def lowest_near(f):
    """The least value of a function at its knots and at many places between."""
    return min(value_at(f, place) for place in places_of(f))
