"""[12], [13] and [14]: corners, splits, papers and floors, with the conventions of [2]."""

import random
import unittest
from fractions import Fraction
from math import comb

from helpers import ANY_VALUES, are_told, check_error, fraction, is_told, pair, picture
from test_broken import knots_of, places_of, some_knots, some_poly, value_at, value_of
from toldmeans.broken import Broken, closed_step, constant, joined, open_step, scaled, total
from toldmeans.errors import BadNumber
from toldmeans.polys import Poly
from toldmeans.signs import Below, Floor, Paper, Split, is_paper, least, never_below

X = Poly((0, 1))
ONE = Poly((1,))
NONE = Poly(())


def corners_of(poly, low, high):
    """The corners of a Poly between two Fractions, by [12]."""
    numbers = [fraction(number) for number in poly.numbers] or [Fraction(0)]
    degree = len(numbers) - 1
    step = high - low
    moved = [sum(numbers[n] * comb(n, k) * low ** (n - k) for n in range(k, degree + 1)) * step ** k
             for k in range(degree + 1)]
    found = [sum(Fraction(comb(k, n), comb(degree, n)) * moved[n] for n in range(k + 1)) for k in range(degree + 1)]
    for s in (Fraction(0), Fraction(1), Fraction(2, 7)):
        whole = sum(b * comb(degree, k) * s ** k * (1 - s) ** (degree - k) for k, b in enumerate(found))
        assert whole == value_of(poly, low + step * s)
    return found


def over(number, most):
    """A function on -2 to 2 with this Poly and the greatest of its limits, or most, at both ends."""
    return Broken((-2, 2), (number,), (most, most))


class Case(unittest.TestCase):
    def check_split(self, split, poly, low, high):
        self.assertIs(split.__class__, Split)
        self.assertIs(split.root.__class__, Poly)
        self.assertIs(split.rest.__class__, Poly)
        self.assertEqual(split.rest * split.root * split.root, poly)
        self.assertTrue(are_told(split.cuts))
        ends = [low] + [fraction(cut) for cut in split.cuts] + [high]
        for one, other in zip(ends, ends[1:]):
            self.assertLess(one, other)
            self.assertGreaterEqual(min(corners_of(split.rest, one, other)), 0)

    def check_paper(self, f, paper):
        """That a paper is as [13] describes it."""
        self.assertIs(paper.__class__, Paper)
        self.assertIs(paper.splits.__class__, tuple)
        short = joined(f)
        self.assertEqual(len(paper.splits), len(short.polys))
        self.assertGreaterEqual(min(fraction(number) for number in f.at), 0)
        for split, poly, low, high in zip(paper.splits, short.polys, knots_of(short), knots_of(short)[1:]):
            self.check_split(split, poly, low, high)

    def check_below(self, f, below):
        self.assertIs(below.__class__, Below)
        self.assertTrue(is_told(below.place))
        self.assertEqual(below.number, pair(value_at(f, fraction(below.place))))
        self.assertLess(below.number[0], 0)

    def judged(self, f):
        """What never_below tells, looked at in all ways."""
        before = picture(f)
        told = never_below(f)
        if isinstance(told, Paper):
            self.check_paper(f, told)
        else:
            self.check_below(f, told)
        self.assertIs(is_paper(f, told), isinstance(told, Paper))
        self.assertEqual(picture(f), before)
        return told

    def check_above(self, f):
        self.assertIsInstance(self.judged(f), Paper)

    def check_not(self, f):
        self.assertIsInstance(self.judged(f), Below)


def from_0_on(source, low, high):
    """A Poly of a degree to 8 that is from 0 on between two Fractions, often 0 at some places there."""
    found = Poly((source.choice((1, 3, (1, 5), (7, 2))),))
    inner = low + (high - low) * Fraction(source.randint(0, 6), 6)
    for _ in range(source.randint(0, 4)):
        squares = (X - pair(inner), X * X - 2, X * X - X - 1, X, X * X * 5 - 3, some_poly(source, 2) + 1)
        factors = (X - pair(low), pair(high) - X, X * X + 1, X * X + (1, 10 ** 9), ONE)
        one, other = source.choice(squares), source.choice(factors)
        for factor in (one * one, other):
            if found.degree() + factor.degree() <= 8:
                found = found * factor
    return found


def some_function(source, many):
    knots = some_knots(source, many, -3, 3)
    polys = [from_0_on(source, low, high) for low, high in zip(knots, knots[1:])]
    at = [pair(value_of(polys[max(0, k - 1)], knot) + source.choice((0, 0, 1))) for k, knot in enumerate(knots)]
    return Broken([pair(knot) for knot in knots], polys, at)


class NeverBelowTest(Case):
    def test_functions_from_0_on(self):
        source = random.Random(1)
        for many in list(range(2, 13)) * 3:
            self.check_above(some_function(source, many))

    def test_the_same_ones_lowered_a_little(self):
        source = random.Random(2)
        counts = [0, 0]
        for many in list(range(2, 13)) * 3:
            f = total(some_function(source, many), constant(-3, 3, (-1, 10 ** source.choice((1, 9, 60)))))
            counts[isinstance(self.judged(f), Below)] += 1
        self.assertGreater(counts[1], 20)

    def test_any_functions(self):
        source = random.Random(3)
        counts = [0, 0]
        for _ in range(150):
            knots = some_knots(source, source.randint(2, 4), -2, 2)
            polys = [some_poly(source, 8) + source.choice((0, 5, 40)) for _ in knots[1:]]
            at = [pair(value_of(polys[max(0, k - 1)], knot)) for k, knot in enumerate(knots)]
            f = Broken([pair(knot) for knot in knots], polys, at)
            told = self.judged(f)
            counts[isinstance(told, Below)] += 1
            if isinstance(told, Paper):
                self.assertGreaterEqual(min(value_at(f, place) for place in places_of(f)), 0)
        self.assertGreater(min(counts), 30)

    def test_constants(self):
        for number in (0, 1, (1, 10 ** 40)):
            self.check_above(constant(-1, 1, number))
        for number in (-1, (-1, 10 ** 40)):
            self.check_not(constant(-1, 1, number))
        self.check_above(closed_step(0, 3, 1, 1))
        self.check_above(open_step(0, 3, 1, 2))
        self.check_not(scaled(closed_step(0, 3, 1, 1), -1))
        self.check_not(scaled(open_step(0, 3, None, 1), (-1, 9)))

    def test_the_degree_below_0(self):
        told = self.judged(Broken((0, 1, 2), (NONE, X), (0, 5, 2)))
        self.assertIsInstance(told, Paper)
        self.check_not(Broken((0, 1, 2), (NONE, NONE), (0, -5, 0)))

    def test_places_where_it_touches_0(self):
        third = X - (1, 3)
        for poly in (third * third, X * X, (X * X - 2) * (X * X - 2), third * third * X * X * (X * X - 3) * (X * X - 3),
                     third * third * third * third * third * third * third * third, (X * X * X - 2) * (X * X * X - 2),
                     (X * X - 2) * (X * X - 2) * (X + 2), (X - 2) * (X - 2) * (X + 2), X * X * (2 - X) * (X + 2)):
            self.check_above(over(poly, 10 ** 6))
            self.check_not(over(-poly, 10 ** 6))
            self.check_not(over(poly - (1, 10 ** 80), 10 ** 6))
            self.check_above(over(poly + (1, 10 ** 80), 10 ** 6))

    def test_zeros_at_ends(self):
        for poly in (X + 2, 2 - X, (X + 2) * (2 - X), (X + 2) * (X + 2) * (X + 2) * (2 - X), (X + 2) * (X + 2)):
            self.check_above(over(poly, 0))
            self.check_not(over(-poly, 0))

    def test_below_near_one_place_alone(self):
        for far in (1, 10 ** 3, 10 ** 30, 10 ** 80):
            self.check_not(over((X + 2) * (X + 2 - (1, far)), 9))
            self.check_not(over((2 - X) * (2 - X - (1, far)), 9))
            self.check_not(over((X * X - 2) * (X * X - 2 - (1, far)), 9))
            self.check_not(over((X * X * far - 1) * X * X, 9))
            self.check_above(over((X * X * far + 1) * X * X, 9))

    def test_limits_below_0_where_the_number_is_above(self):
        self.check_not(Broken((0, 1, 2), (X, X - (10 ** 9 + 1, 10 ** 9)), (0, 1, 1)))
        self.check_not(Broken((0, 1), (X - (1, 10 ** 9),), (5, 5)))
        self.check_not(Broken((0, 1), ((1, 10 ** 9) - X + (10 ** 9 - 2, 10 ** 9),), (5, 5)))
        self.check_above(Broken((0, 1, 2), (X, X - 1), (0, 1, 1)))

    def test_numbers_at_knots_alone_below_0(self):
        for k in range(3):
            at = [1, 1, 1]
            at[k] = (-1, 10 ** 50)
            told = self.judged(Broken((0, (1, 2), 1), (X + 1, X + 2), at))
            self.assertIsInstance(told, Below)
            self.assertEqual((told.place, told.number), (((0, 1), (1, 2), (1, 1))[k], (-1, 10 ** 50)))
            at[k] = 0
            self.check_above(Broken((0, (1, 2), 1), (X + 1, X + 2), at))

    def test_functions_with_the_same_values_have_the_same_papers(self):
        source = random.Random(4)
        for many in (3, 5, 8):
            f = some_function(source, many)
            more = total(f, scaled(closed_step(-3, 3, (-7, 9), (17, 10)), 0))
            self.assertGreater(len(more.knots), len(joined(f).knots))
            paper = never_below(more)
            self.assertIs(is_paper(f, paper), True)
            self.assertIs(is_paper(joined(f), paper), True)
            self.assertIs(is_paper(more, never_below(f)), True)
            self.assertEqual(len(paper.splits), len(joined(f).polys))

    def test_the_greatest_sizes(self):
        source = random.Random(5)
        most = 10 ** 80 - 1
        knots = sorted([Fraction(source.randint(-1000 * most, 1000 * most), most) for _ in range(12)])
        polys = [Poly([(source.randint(-most, most), source.randint(most // 9, most)) for _ in range(9)]) for _ in range(11)]
        f = Broken([pair(knot) for knot in knots], polys, [0 for _ in knots])
        self.check_not(f)
        told = least(f, 60)
        self.check_paper(total(f, constant(f.knots[0], f.knots[-1], pair(-fraction(told.number)))), told.paper)
        squares = [poly * poly for poly in (Poly(p.numbers[:5]) for p in polys)]
        self.check_above(Broken(f.knots, squares, f.at))


class JudgeTest(Case):
    # x * x - 2 squared, times x + 2, on -2 to 2; then x on 2 to 3.
    square = X * X - 2
    f = Broken((-2, 2, 3), ((X * X - 2) * (X * X - 2) * (X + 2), X), (0, 16, 3))
    second = Split(ONE, X, ())

    def check_first(self, split, wanted):
        self.assertIs(is_paper(self.f, Paper((split, self.second))), wanted, vars(split))

    def test_right_papers(self):
        self.check_first(Split(self.square, X + 2, ()), True)
        self.check_first(Split(-self.square, X + 2, (0,)), True)
        self.check_first(Split(self.square * 2, (X + 2) * (1, 4), ((-2, 4), 0, (6, 4))), True)
        self.check_first(Split(self.square, X + 2, [(-1, 1), 1]), True)
        self.assertIs(is_paper(self.f, Paper([Split(self.square, X + 2, ()), self.second])), True)

    def test_one_thing_changed(self):
        for split in (Split(self.square, X + 3, ()), Split(self.square + 1, X + 2, ()), Split(ONE, X + 2, ()),
                      Split(self.square, -X - 2, ()), Split(X + 2, self.square, ()), Split(NONE, NONE, ()),
                      Split(ONE, self.square * self.square * (X + 2), ()),
                      Split(ONE, self.square * self.square * (X + 2), ((-7, 5), (7, 5))),
                      Split(self.square, X + 2, (0, 0)), Split(self.square, X + 2, (1, 0)),
                      Split(self.square, X + 2, (-2,)), Split(self.square, X + 2, (2,)),
                      Split(self.square, X + 2, (3,)), Split(self.square, X + 2, (-3, 0)),
                      Split(self.square, X + 2, ((1, 2), (2, 4))), Split(self.square, X + 2, ([1, 2],)),
                      Split(self.square, X + 2, (True,)), Split(self.square, X + 2, (0, None)),
                      Split(self.square, X + 2, ((1, 0),)), Split(self.square, X + 2, (0.5,)),
                      Split(self.square, X + 2, ((1, -2),)), Split(self.square, X + 2, ((),))):
            self.check_first(split, False)

    def test_values_of_other_kinds_within(self):
        good = Split(self.square, X + 2, ())
        for value in ANY_VALUES + (X, good, Paper(()), self.f):
            if value.__class__ not in (tuple, list) or value in ((1, 2), [1, 2]):
                self.check_first(Split(self.square, X + 2, value), False)
            self.check_first(Split(value, X + 2, ()), False)
            self.check_first(Split(self.square, value, ()), False)
            self.assertIs(is_paper(self.f, Paper((value, self.second))), value is good)
            self.assertIs(is_paper(self.f, Paper((good, value))), False)
            self.assertIs(is_paper(self.f, Paper(value)), False)
            self.assertIs(is_paper(self.f, value), False)
        self.assertIs(is_paper(constant(0, 1, 4), Paper((Split(2, 1, ()),))), False)
        self.assertIs(is_paper(constant(0, 1, 4), Paper((Split(Poly((2,)), ONE, ()),))), True)

    def test_papers_with_more_or_fewer_splits(self):
        good = Split(self.square, X + 2, ())
        for splits in ((), (good,), (self.second,), (good, self.second, self.second), (self.second, good),
                       (good, good), ((good, self.second),), ([good, self.second],)):
            self.assertIs(is_paper(self.f, Paper(splits)), False)
        for told in ((good, self.second), [good, self.second], good, Below((0, 1), (-1, 1)), Floor(0, Paper((good,)), 0)):
            self.assertIs(is_paper(self.f, told), False)

    def test_a_paper_of_a_function_that_is_below_0_at_a_knot_alone(self):
        paper = never_below(self.f)
        self.assertIs(is_paper(self.f, paper), True)
        for at in ((-1, 16, 3), (0, (-1, 9), 3), (0, 16, -3)):
            self.assertIs(is_paper(Broken(self.f.knots, self.f.polys, at), paper), False)
        self.assertIs(is_paper(Broken(self.f.knots, self.f.polys, (5, 0, 7)), paper), True)

    def test_the_degree_below_0(self):
        f = constant(0, 1, 0)
        for split, wanted in ((Split(ONE, NONE, ()), True), (Split(NONE, NONE, ()), True), (Split(NONE, X, ()), True),
                              (Split(X, NONE, ((1, 2),)), True), (Split(NONE, -X, ()), False), (Split(ONE, X, ()), False),
                              (Split(NONE, X - (1, 2), ()), False)):
            self.assertIs(is_paper(f, Paper((split,))), wanted)

    def test_corners_and_not_values_count(self):
        # From 0 on everywhere, but with a corner below 0 unless it is cut.
        poly = X * X - X + (3, 10)
        f = Broken((0, 1), (poly,), (1, 1))
        self.assertIs(is_paper(f, Paper((Split(ONE, poly, ()),))), False)
        self.assertIs(is_paper(f, Paper((Split(ONE, poly, ((1, 2),)),))), True)
        self.assertIs(is_paper(f, Paper((Split(ONE, poly, ((1, 100),)),))), False)
        poly = X * X - X + (1, 4)
        f = Broken((0, 1), (poly,), (1, 1))
        self.assertIs(is_paper(f, Paper((Split(ONE, poly, ((1, 2),)),))), True)
        self.assertIs(is_paper(f, Paper((Split(ONE, poly, ((49, 100),)),))), False)
        self.assertIs(is_paper(f, Paper((Split(X - (1, 2), ONE, ()),))), True)

    def test_as_the_description_says(self):
        source = random.Random(6)
        counts = [0, 0]
        for _ in range(200):
            low, high = Fraction(source.randint(-3, 0)), Fraction(source.randint(1, 4), 2)
            poly = from_0_on(source, low, high)
            f = Broken((pair(low), pair(high)), (poly,), (0, 0))
            cuts = tuple(pair(cut) for cut in sorted({low + (high - low) * Fraction(source.randint(1, 8), 9)
                                                      for _ in range(source.randint(0, 3))}))
            ends = [low] + [fraction(cut) for cut in cuts] + [high]
            wanted = all(min(corners_of(poly, one, other)) >= 0 for one, other in zip(ends, ends[1:]))
            self.assertIs(is_paper(f, Paper((Split(ONE, poly, cuts),))), wanted)
            counts[wanted] += 1
        self.assertGreater(min(counts), 20)


class LeastTest(Case):
    def check_floor(self, f, bits):
        before = picture(f)
        told = least(f, bits)
        gap = Fraction(1, 2 ** bits)
        self.assertIs(told.__class__, Floor)
        self.assertTrue(is_told(told.number))
        self.assertTrue(is_told(told.place))
        number = fraction(told.number)
        self.assertEqual((number / gap).denominator, 1)
        self.assertLess(value_at(f, fraction(told.place)), number + gap)
        lowered = total(f, constant(f.knots[0], f.knots[-1], pair(-number)))
        self.check_paper(lowered, told.paper)
        self.assertIs(is_paper(lowered, told.paper), True)
        self.assertEqual(picture(f), before)
        return number

    def test_many_functions(self):
        source = random.Random(7)
        for many in list(range(2, 13)) * 2:
            f = some_function(source, many)
            for bits in (0, 1, source.randint(2, 59), 60):
                self.check_floor(f, bits)
                self.check_floor(scaled(f, (-2, 7)), bits)

    def test_known_floors(self):
        self.assertEqual(self.check_floor(constant(0, 1, (5, 2)), 0), 2)
        self.assertEqual(self.check_floor(constant(0, 1, (5, 2)), 1), Fraction(5, 2))
        self.assertEqual(self.check_floor(constant(0, 1, (-5, 2)), 0), -3)
        self.assertEqual(self.check_floor(constant(0, 1, 3), 60), 3)
        self.assertEqual(self.check_floor(constant(0, 1, (1, 3)), 60), Fraction(2 ** 60 // 3, 2 ** 60))
        self.assertEqual(self.check_floor(over(X * X * X - 2 * X, 9), 0), -4)
        self.assertEqual(self.check_floor(Broken((0, 1), (X * X * X - 2 * X,), (0, 0)), 3), Fraction(-9, 8))

    def test_the_lowest_number_is_a_multiple_of_the_gap(self):
        square = X * X - 2
        for number in (0, 3, -7, (1, 4), (-5, 8)):
            for poly in (square * square, X * X, square * square * (X + 2), X + 2, (X + 2) * (2 - X), NONE):
                for bits in (3, 20, 60):
                    self.assertEqual(self.check_floor(over(poly + number, 99), bits), fraction(number))
                f = over(poly + number - (1, 2 ** 70), 99)
                self.assertEqual(self.check_floor(f, 60), fraction(number) - Fraction(1, 2 ** 60))
                f = over(poly + number + (1, 2 ** 70), 99)
                self.assertEqual(self.check_floor(f, 60), fraction(number))

    def test_numbers_and_limits_at_knots(self):
        self.assertEqual(self.check_floor(Broken((0, 1), (X + 1,), (9, 9)), 4), 1)
        self.assertEqual(self.check_floor(Broken((0, 1), (X + 1,), (0, 9)), 4), 0)
        self.assertEqual(self.check_floor(Broken((0, 1, 2), (ONE, ONE), (1, (-1, 3), 1)), 0), -1)
        self.assertEqual(self.check_floor(Broken((0, 1, 2), (2 - X, X + 5), (8, 8, 8)), 2), 1)
        self.assertEqual(self.check_floor(Broken((0, 1, 2), (2 - X, X + 5), (8, 8, 8)), 60), 1)
        self.assertEqual(self.check_floor(Broken((0, 1, 2), (2 - X - (1, 9), X + 5), (8, 8, 8)), 0), 0)
        self.assertEqual(self.check_floor(open_step(0, 3, 1, 2), 7), 0)
        self.assertEqual(self.check_floor(scaled(closed_step(0, 3, 1, 1), (-1, 3)), 1), Fraction(-1, 2))

    def test_gaps(self):
        f = constant(0, 1, 1)
        for bits in (-1, 61, True, False, None, "0", 0.0, (0, 1), [3], 10 ** 30, Fraction(3), object()):
            check_error(self, BadNumber, {"what": "bits", "number": bits}, least, f, bits)
        for bits in (0, 60):
            self.assertEqual(self.check_floor(f, bits), 1)


class ObjectsTest(unittest.TestCase):
    def test_they_keep_what_they_are_given(self):
        fields = {Split: ["root", "rest", "cuts"], Paper: ["splits"], Below: ["place", "number"],
                  Floor: ["number", "paper", "place"]}
        inner = [1, 2]
        for kind, names in fields.items():
            for value in ANY_VALUES + ((1, [2]), (2, 4), X):
                made = kind(*[value for _ in names])
                self.assertEqual(list(vars(made)), names)
                for name in names:
                    if isinstance(value, list):
                        self.assertIs(getattr(made, name).__class__, tuple)
                        self.assertEqual(getattr(made, name), tuple(value))
                    else:
                        self.assertIs(getattr(made, name), value)
            made = kind(*[[inner, 3] for _ in names])
            for name in names:
                self.assertIs(getattr(made, name)[0], inner)

    def test_each_equals_itself_alone(self):
        made = [Split(ONE, X, ()), Split(ONE, X, ()), Paper(()), Paper(()), Below(0, -1), Below(0, -1), Floor(0, None, 1),
                Floor(0, None, 1)]
        for k, one in enumerate(made):
            for n, other in enumerate(made):
                self.assertIs(one == other, k == n)


if __name__ == "__main__":
    unittest.main()
