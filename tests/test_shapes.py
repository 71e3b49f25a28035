"""[38] to [45]: even shares, and shares with one hump, with the conventions of [2]."""

import random
import unittest
from fractions import Fraction

from helpers import ANY_VALUES, NO_RATIOS, check_error, fraction, in_any_terms, is_told, pair, picture
from questions import (NO_BITS, check_share, check_sum, mean_by, some_function_on, sum_broken, told_around, worth_by)
from test_broken import Case as BrokenCase
from test_broken import knots_of, places_of, value_at, value_of
from test_means import Case as PaperCase
from toldmeans.broken import Broken, closed_step, constant, open_step, scaled, total
from toldmeans.errors import BadName, BadNumber, BadRow, Unlike
from toldmeans.lines import median
from toldmeans.polys import Poly
from toldmeans.shapes import (Mixture, Shape, ShapedAbove, ShapedBarred, ShapedFits, any_shaped, area, as_share, folded,
                              greatest_shaped, is_any_shaped, is_greatest_shaped, mean_at, mean_of, served)
from toldmeans.shares import Share, Told
from toldmeans.signs import Paper, never_below

X = Poly((0, 1))
HALF = (1, 2)
TINY = Fraction(1, 10 ** 12)
WORDS = ("any", "even", "hump", "even hump")
ANY = Shape("any", None)


def on(poly, low=0, high=1):
    return Broken((low, high), (poly,), (poly.at(low), poly.at(high)))


LINE = on(X)


def area_by(f, low, high):
    """The area of a function between two Fractions, piece by piece."""
    found = Fraction(0)
    knots = knots_of(f)
    for poly, left, right in zip(f.polys, knots, knots[1:]):
        left, right = max(left, low), min(right, high)
        if left < right:
            for k, number in enumerate(poly.numbers):
                found += fraction(number) * (right ** (k + 1) - left ** (k + 1)) / (k + 1)
    return found


def mean_at_by(shape, f, place):
    """The mean of the simple share at a place, by [39]."""
    if shape.word == "any":
        return value_at(f, place)
    middle = fraction(shape.middle)
    if shape.word == "even":
        return (value_at(f, middle - place) + value_at(f, middle + place)) / 2
    ends = sorted((middle, place)) if shape.word == "hump" else [middle - place, middle + place]
    if ends[0] == ends[1]:
        return value_at(f, middle)
    return area_by(f, *ends) / (ends[1] - ends[0])


def mean_of_by(mixture, f):
    return sum(fraction(part) * mean_at_by(mixture.shape, f, fraction(place))
               for place, part in zip(mixture.places, mixture.parts))


def places_told(shape, low, high):
    """The ends of the places of a shape on a stretch, by [39]."""
    if shape.word in ("any", "hump"):
        return low, high
    return Fraction(0), min(fraction(shape.middle) - low, high - fraction(shape.middle))


def some_shape(source, low, high, word):
    if word == "any":
        return ANY
    middle = low + (high - low) * Fraction(source.randint(1, 17), 18)
    if word == "hump" and source.random() < 0.4:
        middle = source.choice((low, high))
    return Shape(word, in_any_terms(source, middle))


def some_mixture(source, shape, low, high, many):
    first, last = places_told(shape, low, high)
    places = sorted({first + (last - first) * Fraction(source.randint(0, 20), 20) for _ in range(many)})
    if shape.word == "hump" and source.random() < 0.3:
        places = sorted(set(places) | {fraction(shape.middle)})
    parts = [source.randint(1, 5) for _ in places]
    return Mixture(shape, tuple(pair(place) for place in places), tuple(pair(Fraction(p, sum(parts))) for p in parts))


class ShapeTest(unittest.TestCase):
    def test_attributes(self):
        for word, middle, wanted in (("any", None, None), ("even", [2, 4], (1, 2)), ("hump", 3, (3, 1)),
                                     ("even hump", (-6, 4), (-3, 2))):
            shape = Shape(word, middle)
            self.assertEqual(list(vars(shape)), ["word", "middle"])
            self.assertEqual((shape.word, shape.middle), (word, wanted))

    def test_equality(self):
        made = [ANY] + [Shape(word, middle) for word in WORDS[1:] for middle in (0, HALF, 2)]
        for k, one in enumerate(made):
            for n, other in enumerate(made):
                self.assertIs(one == other, k == n)
                self.assertIs(one != other, k != n)
        self.assertTrue(Shape("hump", 2) == Shape("hump", [4, 2]))
        self.assertTrue(ANY == Shape("any", None))
        for value in (None, "any", ("hump", (2, 1)), Mixture(ANY, (), ()), Share((0,), (1,))):
            self.assertFalse(ANY == value)
            self.assertFalse(Shape("hump", 2) == value)

    def test_errors(self):
        for word in (None, 0, True, "", "humps", "even  hump", "Any", "any ", b"any", ["any"], ("any",), {}, [], object, 0.5):
            for middle in (None, 0, "x"):
                check_error(self, BadName, {"name": word}, Shape, word, middle)
        for value in NO_RATIOS:
            for word in WORDS[1:]:
                check_error(self, BadNumber, {"what": "middle", "number": value}, Shape, word, value)
            if value is not None:
                check_error(self, BadNumber, {"what": "middle", "number": value}, Shape, "any", value)
        check_error(self, BadNumber, {"what": "middle", "number": (1, 2)}, Shape, "any", (1, 2))


class FunctionsTest(BrokenCase):
    def questions(self, seed, many, word, most=4):
        source = random.Random(seed)
        for k in range(many):
            low, high = Fraction(source.randint(-3, 0)), Fraction(source.randint(2, 7), 2)
            f = some_function_on(source, low, high, ("plain", "upper", "lower")[k % 3], most, 5)
            shape = some_shape(source, low, high, word)
            if word != "any" and k % 4 == 0 and len(f.knots) > 2:
                # A jump just at the middle.
                shape = Shape(word, f.knots[1])
            yield source, low, high, f, shape

    def test_folded(self):
        for source, low, high, f, shape in self.questions(1, 60, "even", 8):
            middle = fraction(shape.middle)
            before = picture(f)
            found = folded(f, in_any_terms(source, middle))
            self.assertEqual(picture(f), before)
            self.assertEqual((knots_of(found)[0], knots_of(found)[-1]), places_told(shape, low, high))
            places = set(places_of(found)) | {abs(knot - middle) for knot in knots_of(f)}
            places = [place for place in places if place <= knots_of(found)[-1]]
            self.check_values(found, lambda t: (value_at(f, middle + t) + value_at(f, middle - t)) / 2, places)
            self.check_joined(found)

    def test_area(self):
        for source, low, high, f, shape in self.questions(2, 60, "hump", 8):
            middle = fraction(shape.middle)
            before = picture(f)
            found = area(f, in_any_terms(source, middle))
            self.assertEqual(picture(f), before)
            self.assertEqual((knots_of(found)[0], knots_of(found)[-1]), (low, high))
            self.assertTrue(found.is_plain())
            self.check_values(found, lambda y: area_by(f, *sorted((middle, y))), places_of(f, found))
            self.check_joined(found)

    def test_known_ones(self):
        self.assertEqual(area(constant(0, 2, 1), 1), Broken((0, 1, 2), (1 - X, X - 1), (1, 0, 1)))
        self.assertEqual(area(constant(0, 2, 1), 0), on(X, 0, 2))
        self.assertEqual(area(constant(0, 2, 0), 1), constant(0, 2, 0))
        self.assertEqual(area(LINE, 1), on((1 - X * X) * HALF))
        self.assertEqual(folded(LINE, (1, 3)), constant(0, (1, 3), (1, 3)))
        self.assertEqual(folded(closed_step(0, 2, 1, 1), 1), Broken((0, 1), (Poly(()),), (1, 0)))
        self.assertEqual(folded(closed_step(0, 3, 0, 0), 1), Broken((0, 1), (Poly(()),), (0, HALF)))

    def test_mean_at(self):
        for word in WORDS:
            for source, low, high, f, shape in self.questions(3, 30, word):
                first, last = places_told(shape, low, high)
                places = [first, last] + [first + (last - first) * Fraction(source.randint(1, 99), 100) for _ in range(3)]
                if word == "hump":
                    places.append(fraction(shape.middle))
                for place in places:
                    found = mean_at(shape, f, in_any_terms(source, place))
                    self.assertTrue(is_told(found))
                    self.assertEqual(fraction(found), mean_at_by(shape, f, place))

    def test_served(self):
        for word in WORDS:
            for _, low, high, f, shape in self.questions(4, 20, word):
                found = served(shape, f)
                self.assertIs(found.__class__, tuple)
                if word == "any":
                    self.assertEqual(len(found), 1)
                    self.assertIs(found[0], f)
                elif word == "even":
                    self.assertEqual(found, (folded(f, shape.middle),))
                else:
                    number = pair(value_at(f, fraction(shape.middle)))
                    first, last = places_told(shape, low, high)
                    inner = area(f, shape.middle) if word == "hump" else area(folded(f, shape.middle), 0)
                    self.assertEqual(found, (inner, constant(pair(first), pair(last), number)))

    def test_served_functions_are_from_0_on_just_if_the_means_are(self):
        counts = {}
        for word in WORDS:
            for _, low, high, f, shape in self.questions(5, 60, word, 2):
                f = total(f, constant(pair(low), pair(high), 2))
                papers = [never_below(one) for one in served(shape, f)]
                wanted = all(isinstance(paper, Paper) for paper in papers)
                first, last = places_told(shape, low, high)
                means = [mean_at_by(shape, f, first + (last - first) * Fraction(k, 60)) for k in range(61)]
                if word == "hump":
                    means.append(mean_at_by(shape, f, fraction(shape.middle)))
                self.assertFalse(wanted and min(means) < 0)
                if min(means) > Fraction(1, 2):
                    self.assertTrue(wanted)
                counts[word, wanted] = counts.get((word, wanted), 0) + 1
        self.assertGreater(min(counts.values()), 5)
        self.assertEqual(len(counts), 8)

    def test_errors(self):
        f = Broken((0, 1, 2), (X, X * X), (0, 1, 4))
        for value in NO_RATIOS:
            check_error(self, BadNumber, {"what": "middle", "number": value}, folded, f, value)
            check_error(self, BadNumber, {"what": "middle", "number": value}, area, f, value)
            for shape in (ANY, Shape("even", 1), Shape("hump", 0), Shape("even hump", HALF)):
                check_error(self, BadNumber, {"what": "place", "number": value}, mean_at, shape, f, value)
        for value in (0, 2, -1, 3, (0, 7), [4, 2], pair(-TINY)):
            check_error(self, BadNumber, {"what": "middle", "number": value}, folded, f, value)
        for value in (-1, 3, pair(-TINY), pair(2 + TINY)):
            check_error(self, BadNumber, {"what": "middle", "number": value}, area, f, value)
            for shape in (ANY, Shape("hump", 1)):
                check_error(self, BadNumber, {"what": "place", "number": value}, mean_at, shape, f, value)
        for shape in (Shape("even", HALF), Shape("even hump", (3, 2))):
            for value in (-1, 1, pair(-TINY), pair(Fraction(1, 2) + TINY)):
                check_error(self, BadNumber, {"what": "place", "number": value}, mean_at, shape, f, value)
        for shape in (Shape("even", 0), Shape("even", 2), Shape("even hump", 0), Shape("even hump", 9), Shape("hump", -1),
                      Shape("hump", pair(2 + TINY))):
            check_error(self, BadNumber, {"what": "middle", "number": shape.middle}, served, shape, f)
            check_error(self, BadNumber, {"what": "middle", "number": shape.middle}, mean_at, shape, f, None)


class MixtureTest(unittest.TestCase):
    def test_mean_of(self):
        source = random.Random(6)
        for word in WORDS:
            for _ in range(25):
                low, high = Fraction(-1), Fraction(3)
                shape = some_shape(source, low, high, word)
                mixture = some_mixture(source, shape, low, high, source.randint(1, 6))
                f = some_function_on(source, low, high, source.choice(("plain", "upper", "lower")), 6, 6)
                before = picture((mixture, f))
                found = mean_of(mixture, f)
                self.assertTrue(is_told(found))
                self.assertEqual(fraction(found), mean_of_by(mixture, f))
                held = as_share(mixture)
                if word in ("any", "even"):
                    check_share(self, held, low, high)
                    self.assertEqual(mean_by(held, f), fraction(found))
                else:
                    self.assertIsNone(held)
                self.assertEqual(picture((mixture, f)), before)

    def test_known_ones(self):
        self.assertEqual(as_share(Mixture(Shape("even", 1), (0, HALF), ((1, 3), (4, 6)))),
                         Share((HALF, 1, (3, 2)), ((1, 3), (1, 3), (1, 3))))
        self.assertEqual(as_share(Mixture(ANY, [0, (4, 2)], [HALF, HALF])), Share((0, 2), (HALF, HALF)))
        self.assertEqual(mean_of(Mixture(Shape("hump", 0), (0, 1), (HALF, HALF)), LINE), (1, 4))
        self.assertEqual(mean_of(Mixture(ANY, [[0, 5], 1], [[1, 2], (2, 4)]), LINE), HALF)
        self.assertEqual(as_share(Mixture(ANY, [[0, 5], 1], [[1, 2], (2, 4)])), Share((0, 1), (HALF, HALF)))
        self.assertEqual(mean_of(Mixture(Shape("even hump", HALF), [[0, 2], [1, 4]], [HALF, [1, 2]]), LINE), HALF)
        self.assertEqual(mean_of(Mixture(Shape("even hump", HALF), ((1, 4),), (1,)), on(X * X)), (13, 48))


class Case(PaperCase):
    def check_papers(self, shape, f, papers):
        self.assertIs(papers.__class__, tuple)
        functions = served(shape, f)
        self.assertEqual(len(papers), len(functions))
        for one, paper in zip(functions, papers):
            self.check_paper(one, paper)

    def check_mixture(self, shape, mixture, low, high, rows, bits):
        self.assertIs(mixture.__class__, Mixture)
        self.assertEqual(list(vars(mixture)), ["shape", "places", "parts"])
        self.assertEqual(mixture.shape, shape)
        first, last = places_told(shape, low, high)
        check_share(self, Share(mixture.places, mixture.parts), first, last)
        self.assertTrue(all(is_told(number) for number in mixture.places + mixture.parts))
        for row in rows:
            number = mean_of_by(mixture, row.function)
            gap = Fraction(1, 2 ** bits)
            self.assertTrue(row.least is None or number >= fraction(row.least) - gap)
            self.assertTrue(row.most is None or number <= fraction(row.most) + gap)

    def check_shaped_barred(self, rows, shape, told):
        self.assertEqual(list(vars(told)), ["number", "factors", "papers"])
        check_sum(self, rows, told.number, told.factors)
        self.assertLess(worth_by(rows, told.number, told.factors), 0)
        knots = knots_of(rows[0].function)
        self.check_papers(shape, sum_broken(rows, told.number, told.factors, knots[0], knots[-1]), told.papers)

    def greatest_of(self, g, rows, shape, bits):
        before = picture((g, rows, shape))
        told = greatest_shaped(g, rows, shape, bits)
        if isinstance(told, ShapedBarred):
            self.check_shaped_barred(rows, shape, told)
        else:
            self.assertEqual(list(vars(told)), ["upper", "number", "factors", "papers", "mixture"])
            knots = knots_of(g)
            self.assertTrue(is_told(told.upper))
            check_sum(self, rows, told.number, told.factors)
            self.assertEqual(worth_by(rows, told.number, told.factors), fraction(told.upper))
            f = sum_broken(rows, told.number, told.factors, knots[0], knots[-1])
            self.check_papers(shape, total(f, scaled(g, -1)), told.papers)
            self.check_mixture(shape, told.mixture, knots[0], knots[-1], rows, bits)
            self.assertGreaterEqual(mean_of_by(told.mixture, g), fraction(told.upper) - Fraction(1, 2 ** bits))
        self.assertIs(is_greatest_shaped(g, rows, shape, bits, told), True)
        self.assertEqual(picture((g, rows, shape)), before)
        return told

    def fitted_of(self, rows, shape, bits):
        before = picture((rows, shape))
        told = any_shaped(rows, shape, bits)
        if isinstance(told, ShapedBarred):
            self.check_shaped_barred(rows, shape, told)
        else:
            self.assertEqual(list(vars(told)), ["mixture"])
            knots = knots_of(rows[0].function)
            self.check_mixture(shape, told.mixture, knots[0], knots[-1], rows, bits)
        self.assertIs(is_any_shaped(rows, shape, bits, told), True)
        self.assertEqual(picture((rows, shape)), before)
        return told


class GreatestTest(Case):
    def rows(self, source, shape, low, high, many, rooms, degree=4):
        mixture = some_mixture(source, shape, low, high, source.randint(1, 4))
        rows = []
        for _ in range(many):
            f = some_function_on(source, low, high, source.choice(("plain", "plain", "upper", "lower")), degree)
            rows.append(told_around(source, f, mean_of_by(mixture, f), source.choice(rooms)))
        return source.choice((tuple, list))(rows)

    def test_many_questions(self):
        source = random.Random(7)
        counts = {}
        for word in WORDS:
            for k in range(40):
                low, high = Fraction(source.randint(-3, 0)), Fraction(source.randint(1, 3))
                shape = some_shape(source, low, high, word)
                rooms = source.choice(((0,), (0, 1, Fraction(1, 9)), (-1, Fraction(-1, 4))))
                rows = self.rows(source, shape, low, high, source.randint(0, 4), rooms)
                g = some_function_on(source, low, high, ("plain", "upper")[k % 2], 4)
                bits = source.choice((0, 4, 9, 12))
                told = self.greatest_of(g, rows, shape, bits)
                counts[word, told.__class__] = counts.get((word, told.__class__), 0) + 1
                if len(rows) > 0:
                    told = self.fitted_of(rows, shape, bits)
                    counts[word, told.__class__] = counts.get((word, told.__class__), 0) + 1
        self.assertEqual(len(counts), 12)
        self.assertGreater(min(counts.values()), 2)

    def near(self, told, wanted, bits):
        self.assertIsInstance(told, ShapedAbove)
        self.assertGreaterEqual(fraction(told.upper), wanted)
        self.assertLess(fraction(told.upper), wanted + Fraction(2, 2 ** bits))

    def test_half_as_much_for_falling_shares(self):
        f = on(X, 0, 10)
        step = closed_step(0, 10, 4, 10)
        rows = (Told(f, None, 1),)
        self.near(self.greatest_of(step, rows, ANY, 12), Fraction(1, 4), 10)
        self.near(self.greatest_of(step, rows, Shape("hump", 0), 12), Fraction(1, 8), 10)

    def test_spread_shares_about_their_middle(self):
        # Of a deviation: at most 1 / k**2 for all, at most 4 / (9 * k**2) with one even hump.
        f = on(X * X, -10, 10)
        far = total(closed_step(-10, 10, -10, -4), closed_step(-10, 10, 4, 10))
        rows = (Told(f, None, 1),)
        self.near(self.greatest_of(far, rows, Shape("even", 0), 12), Fraction(1, 16), 10)
        self.near(self.greatest_of(far, rows, Shape("even hump", 0), 12), Fraction(1, 36), 10)
        self.near(self.greatest_of(far, rows, Shape("hump", 0), 12), Fraction(1, 36), 10)

    def test_an_empty_row(self):
        for rows in ((), []):
            self.near(self.greatest_of(LINE, rows, ANY, 12), 1, 12)
            self.near(self.greatest_of(LINE, rows, Shape("even", (1, 4)), 12), Fraction(1, 4), 12)
            self.near(self.greatest_of(LINE, rows, Shape("hump", 0), 12), Fraction(1, 2), 12)
            self.near(self.greatest_of(LINE, rows, Shape("hump", 1), 12), 1, 12)
            self.near(self.greatest_of(closed_step(0, 1, HALF, HALF), rows, Shape("even hump", HALF), 12), 1, 12)
            self.near(self.greatest_of(closed_step(0, 1, HALF, HALF), rows, Shape("even hump", (1, 4)), 12), 0, 12)
            self.near(self.greatest_of(closed_step(0, 1, HALF, HALF), rows, Shape("hump", HALF), 12), 1, 12)

    def test_jumps_at_the_middle(self):
        # Without a chance of the middle itself a half of the share lies on each side, with it as much as one likes.
        g = closed_step(0, 2, 1, 1)
        for word in WORDS[1:]:
            shape = Shape(word, 1)
            self.near(self.greatest_of(g, (), shape, 12), 1, 12)
            rows = (Told(scaled(g, -1), None, (-1, 4)),)
            self.assertIsInstance(self.fitted_of(rows, shape, 12), ShapedFits)
            rows = (Told(on(X, 0, 2), 1, 1), Told(on((X - 1) * (X - 1), 0, 2), (1, 3), None))
            self.assertIsInstance(self.fitted_of(rows, shape, 12), ShapedFits)
        rows = (Told(on((X - 1) * (X - 1), 0, 2), pair(Fraction(1, 3) + Fraction(1, 1000)), None),)
        self.assertIsInstance(self.fitted_of(rows, Shape("even hump", 1), 12), ShapedBarred)
        self.assertIsInstance(self.fitted_of(rows, Shape("hump", 1), 12), ShapedBarred)
        self.assertIsInstance(self.fitted_of(rows, Shape("even", 1), 12), ShapedFits)

    def test_shares_with_a_told_median_and_one_hump(self):
        rows = median(0, 10, 2)
        told = self.greatest_of(on(X, 0, 10), rows, Shape("hump", 1), 12)
        self.assertIsInstance(told, ShapedAbove)
        self.assertLess(fraction(told.upper), fraction(self.greatest_of(on(X, 0, 10), rows, ANY, 12).upper) - 1)
        self.assertIsInstance(self.fitted_of(rows, Shape("hump", 0), 12), ShapedFits)
        self.assertIsInstance(self.fitted_of(median(0, 10, 6), Shape("hump", 0), 12), ShapedBarred)

    def test_a_very_narrow_piece_beside_the_middle(self):
        width = Fraction(1, 10 ** 40)
        f = closed_step(0, 1, HALF, pair(Fraction(1, 2) + width))
        for word, middle in (("hump", HALF), ("hump", 0), ("hump", pair(Fraction(1, 2) - width)), ("even hump", HALF),
                             ("even hump", pair(Fraction(1, 2) + width / 2)), ("even", HALF)):
            self.assertIsInstance(self.greatest_of(f, (Told(LINE, (1, 4), None),), Shape(word, middle), 12), ShapedAbove)

    def test_errors_in_their_order(self):
        neither = Broken((0, HALF, 1), (X, Poly((3,))), (0, 2, 3))
        rows = (Told(LINE, 0, 1),)
        unlike = (Told(LINE, 0, 1), Told(constant(0, 2, 0), 0, 1))
        wrong = (Shape("even", 0), Shape("even", 1), Shape("even hump", 2), Shape("hump", -1), Shape("hump", pair(1 + TINY)))
        for call in (greatest_shaped, lambda g, rows, shape, bits: is_greatest_shaped(g, rows, shape, bits, None)):
            for g in (neither, open_step(0, 1, None, HALF), open_step(0, 2, 0, 1)):
                check_error(self, Unlike, {"what": "kind"}, call, g, unlike, wrong[0], -1)
            check_error(self, Unlike, {"what": "stretch"}, call, LINE, unlike, wrong[0], -1)
            check_error(self, Unlike, {"what": "stretch"}, call, constant(0, 2, 0), rows, ANY, 5)
            for shape in wrong:
                for some in (rows, ()):
                    check_error(self, BadNumber, {"what": "middle", "number": shape.middle}, call, LINE, some, shape, -1)
            for bits in NO_BITS:
                check_error(self, BadNumber, {"what": "bits", "number": bits}, call, LINE, rows, Shape("hump", 0), bits)
        for call in (any_shaped, lambda rows, shape, bits: is_any_shaped(rows, shape, bits, None)):
            check_error(self, Unlike, {"what": "stretch"}, call, unlike, wrong[0], -1)
            for some in ((), []):
                check_error(self, BadRow, {"row": some}, call, some, wrong[0], -1)
            for shape in wrong:
                check_error(self, BadNumber, {"what": "middle", "number": shape.middle}, call, rows, shape, -1)
            for bits in NO_BITS:
                check_error(self, BadNumber, {"what": "bits", "number": bits}, call, rows, ANY, bits)


class JudgeTest(Case):
    shape = Shape("hump", 0)
    rows = (Told(LINE, (1, 8), (1, 4)), Told(closed_step(0, 1, 0, HALF), HALF, None))

    def test_another_right_answer(self):
        # The mean of x of falling shares is at most 1/2: the sum 1/2 less x, with the area x / 2 - x * x / 2.
        papers = tuple(never_below(one) for one in served(self.shape, on(Poly((HALF, -1)))))
        for places, parts, bits, wanted in (((1,), (1,), 60, True), (((9, 10), (2, 2)), (HALF, HALF), 4, True),
                                            (((9, 10), 1), (HALF, HALF), 60, False), ((0,), (1,), 0, True),
                                            ((0,), (1,), 2, False), ((1, 2), (HALF, HALF), 0, False), ((), (), 0, False),
                                            ((1,), (HALF,), 0, False), ((1, 1), (HALF, HALF), 0, False),
                                            ((0, 1), (0, 1), 0, False), ((1,), (1, 0), 0, False),
                                            (((1, 1),), ((2, 2),), 60, True), (([1, 1],), (1,), 60, False),
                                            ((True,), (1,), 60, False), ((1,), (True,), 60, False),
                                            ((-1, 1), (HALF, HALF), 0, False), (None, (1,), 0, False)):
            told = ShapedAbove(HALF, HALF, (), papers, Mixture(self.shape, places, parts))
            self.assertIs(is_greatest_shaped(LINE, (), self.shape, bits, told), wanted, (places, parts, bits))
        right = Mixture(Shape("hump", (0, 5)), (1,), (1,))
        for mixture, wanted in ((right, True), (Mixture(ANY, (1,), (1,)), False), (Mixture(Shape("hump", 1), (1,), (1,)), False),
                                (Mixture(None, (1,), (1,)), False), (Share((1,), (1,)), False),
                                (Mixture(Shape("even hump", 0), (1,), (1,)), False)):
            told = ShapedAbove(HALF, HALF, (), papers, mixture)
            self.assertIs(is_greatest_shaped(LINE, (), self.shape, 60, told), wanted)
        for other, wanted in ((papers, True), (list(papers), True), (papers[:1], False), (papers * 2, False),
                              (papers[::-1], False), ((papers[0], Paper(())), False), (papers[0], False), (None, False)):
            told = ShapedAbove(HALF, HALF, (), other, right)
            self.assertIs(is_greatest_shaped(LINE, (), self.shape, 60, told), wanted)

    def test_one_thing_changed(self):
        for word, middle in (("any", None), ("even", HALF), ("hump", 0), ("even hump", (1, 3))):
            shape = Shape(word, middle)
            rows = (Told(LINE, (1, 8), (2, 3)), Told(closed_step(0, 1, 0, HALF), (1, 3), None))
            g = on(X * X * X)
            told = greatest_shaped(g, rows, shape, 10)
            self.assertIsInstance(told, ShapedAbove)
            self.assertIs(is_greatest_shaped(g, rows, shape, 10, told), True)
            for name, value in (("upper", pair(fraction(told.upper) + TINY)), ("upper", pair(fraction(told.upper) - TINY)),
                                ("number", 7), ("number", pair(fraction(told.number) - TINY)), ("factors", told.factors[:1]),
                                ("factors", told.factors + (0,)), ("factors", (0, 1)), ("papers", told.papers[:-1]),
                                ("papers", told.papers + (Paper(()),)), ("papers", (Paper(()),) * len(told.papers)),
                                ("mixture", Mixture(shape, (2,), (1,))),
                                ("mixture", Mixture(shape, told.mixture.places, told.mixture.parts + (1,)))):
                made = ShapedAbove(*dict(vars(told), **{name: value}).values())
                self.assertIs(is_greatest_shaped(g, rows, shape, 10, made), False, (word, name, value))
            for other in (ANY, Shape("even", HALF), Shape("hump", 0), Shape("hump", 1), Shape("even hump", (1, 3))):
                if other != shape:
                    self.assertIs(is_greatest_shaped(g, rows, other, 10, told), False)
            self.assertIs(is_greatest_shaped(constant(0, 1, 2), rows, shape, 10, told), False)

    def test_barred_with_one_thing_changed(self):
        # Falling shares have a mean of x of at most 1/2.
        rows = (Told(LINE, (3, 4), None),)
        papers = tuple(never_below(one) for one in served(self.shape, on(Poly((HALF, -1)))))
        for number, factors, some, wanted in ((HALF, (-1,), papers, True), ((2, 4), [(-3, 3)], list(papers), True),
                                              ((5, 8), (-1,), papers, False), ((3, 4), (-1,), papers, False),
                                              (HALF, (-1,), papers[:1], False), (HALF, (1,), papers, False),
                                              (HALF, (-1, 0), papers, False), (HALF, (), papers, False),
                                              (HALF, (-1,), None, False), (True, (-1,), papers, False)):
            told = ShapedBarred(number, factors, some)
            self.assertIs(is_any_shaped(rows, self.shape, 5, told), wanted, (number, factors))
            self.assertIs(is_greatest_shaped(LINE, rows, self.shape, 5, told), wanted, (number, factors))
            self.assertIs(is_any_shaped(rows, ANY, 5, told), False)
        self.assertIs(is_greatest_shaped(LINE, (), self.shape, 5, ShapedBarred(-1, (), papers)), False)

    def test_other_values(self):
        g = on(X * (2 - X))
        above, fitting = greatest_shaped(g, self.rows, self.shape, 9), any_shaped(self.rows, self.shape, 9)
        barred_rows = (Told(LINE, (3, 4), None), Told(LINE, 0, None))
        barred = any_shaped(barred_rows, self.shape, 9)
        self.assertIsInstance(barred, ShapedBarred)
        no_ratios = [value for value in ANY_VALUES if value.__class__ not in (int, tuple, list)]
        for rows, told in ((self.rows, above), (self.rows, fitting), (barred_rows, barred)):
            judges = (lambda value: is_greatest_shaped(g, rows, self.shape, 9, value),
                      lambda value: is_any_shaped(rows, self.shape, 9, value))
            self.assertEqual([judge(told) for judge in judges], [told is not fitting, told is not above])
            for value in list(ANY_VALUES) + [rows, g, above.mixture, above.papers, self.shape]:
                self.assertEqual([judge(value) for judge in judges], [False, False])
            for name in vars(told):
                for value in no_ratios + [(), [], (1, 2, 3), ((1, 0), 1), rows, g, told, (None, None), (told, told)]:
                    made = told.__class__(*dict(vars(told), **{name: value}).values())
                    self.assertEqual([judge(made) for judge in judges], [False, False], (name, value))
            for value in no_ratios + [(), [], self.shape, (None,), ((1, 2, 3),), "hump"]:
                for mixture in (Mixture(value, (1,), (1,)), Mixture(self.shape, value, (1,)), Mixture(self.shape, (1,), value)):
                    self.assertIs(judges[1](ShapedFits(mixture)), False)
                    self.assertIs(judges[0](ShapedAbove(*dict(vars(above), mixture=mixture).values())), False)


class ObjectsTest(unittest.TestCase):
    FIELDS = {Mixture: ["shape", "places", "parts"], ShapedBarred: ["number", "factors", "papers"],
              ShapedAbove: ["upper", "number", "factors", "papers", "mixture"], ShapedFits: ["mixture"]}

    def test_they_keep_what_they_are_given(self):
        inner = [1, 2]
        for kind, names in self.FIELDS.items():
            for value in ANY_VALUES + ((1, [2]), (2, 4), LINE):
                made = kind(*[value for _ in names])
                self.assertEqual(list(vars(made)), names)
                for name in names:
                    if isinstance(value, list):
                        self.assertIs(getattr(made, name).__class__, tuple)
                        self.assertEqual(getattr(made, name), tuple(value))
                    else:
                        self.assertIs(getattr(made, name), value)
            made = kind(*[[inner, 3] for _ in names])
            for name in names:
                self.assertIs(getattr(made, name)[0], inner)

    def test_each_equals_itself_alone(self):
        made = [kind(*[0 for _ in names]) for kind, names in self.FIELDS.items() for _ in range(2)]
        for k, one in enumerate(made):
            for n, other in enumerate(made):
                self.assertIs(one == other, k == n)


if __name__ == "__main__":
    unittest.main()
