"""[52] to [57]: what one more told mean would say, with the conventions of [2]."""

import random
import unittest
from fractions import Fraction

from helpers import ANY_VALUES, check_error, fraction, is_told, pair, picture
from questions import check_share, mean_by, missed_by, some_function_on, some_question, some_share_on, told_around
from test_broken import Case as BrokenCase
from test_broken import knots_of, value_at
from test_lines import NO_ROWS
from test_lines import Case as LineCase
from toldmeans.broken import Broken, closed_step, constant, joined, scaled
from toldmeans.errors import BadNumber, BadRow, Unlike
from toldmeans.lines import NoShare, line_fits, line_greatest, line_least
from toldmeans.news import Fixed, Left, MayBe, Narrowed, apart, may_be, narrowed, width_left
from toldmeans.polys import Poly
from toldmeans.shares import Share, Told

X = Poly((0, 1))
HALF = (1, 2)
LINE = Broken((0, 1), (X,), (0, 1))
SQUARE = Broken((0, 1), (X * X,), (0, 1))
TENT = Broken((0, HALF, 1), (X * 2, 2 - X * 2), (0, 1, 0))
NO_SHARE = (Told(LINE, (3, 4), None), Told(LINE, None, (1, 4)))


class Case(LineCase, BrokenCase):
    def ends(self, rows, f):
        """The least and the greatest mean, by lines.py."""
        return fraction(line_least(rows, f).mean), fraction(line_greatest(rows, f).mean)

    def fits_none(self, rows, knots):
        return len(rows) > 0 and isinstance(line_fits(rows), NoShare)

    def asked_may_be(self, rows, function):
        before = picture((rows, function))
        told = may_be(rows, function)
        if self.fits_none(rows, function.knots):
            self.check_no_share(rows, told)
        else:
            self.assertIs(told.__class__, MayBe)
            self.assertEqual(list(vars(told)), ["low", "high", "low_share", "high_share"])
            self.assertTrue(is_told(told.low) and is_told(told.high))
            self.assertEqual((fraction(told.low), fraction(told.high)), self.ends(rows, function))
            for number, share in ((told.low, told.low_share), (told.high, told.high_share)):
                check_share(self, share, knots_of(function)[0], knots_of(function)[-1])
                self.assertEqual(missed_by(share, rows), 0)
                self.assertEqual(mean_by(share, function), fraction(number))
        self.assertEqual(picture((rows, function)), before)
        return told

    def check_bends(self, f, sign):
        """That a line bends upwards, or with the sign -1 downwards, at each inner knot."""
        knots = knots_of(f)
        slopes = [(value_at(f, high) - value_at(f, low)) / (high - low) for low, high in zip(knots, knots[1:])]
        for one, other in zip(slopes, slopes[1:]):
            self.assertGreater((other - one) * sign, 0)

    def asked_narrowed(self, rows, function, question):
        before = picture((rows, function, question))
        told = narrowed(rows, function, question)
        if self.fits_none(rows, function.knots):
            self.check_no_share(rows, told)
            return told
        low, high = self.ends(rows, function)
        if low == high:
            self.assertIs(told.__class__, Fixed)
            self.assertEqual(list(vars(told)), ["number", "least", "greatest"])
            self.assertEqual(told.number, pair(low))
            self.assertEqual((fraction(told.least), fraction(told.greatest)), self.ends(rows, question))
        else:
            self.assertIs(told.__class__, Narrowed)
            self.assertEqual(list(vars(told)), ["low", "high", "lower", "upper"])
            self.assertEqual((told.low, told.high), (pair(low), pair(high)))
            for f, sign in ((told.lower, 1), (told.upper, -1)):
                self.check_form(f)
                self.assertEqual((f.knots[0], f.knots[-1]), (told.low, told.high))
                self.assertTrue(f.is_plain() and f.is_line())
                self.assertEqual(joined(f), f)
                self.check_bends(f, sign)
            places = sorted(set(knots_of(told.lower)) | set(knots_of(told.upper)))
            for v in places + [(2 * one + other) / 3 for one, other in zip(places, places[1:])]:
                held = [*rows, Told(function, pair(v), pair(v))]
                self.assertEqual((value_at(told.lower, v), value_at(told.upper, v)), self.ends(held, question))
        self.assertEqual(picture((rows, function, question)), before)
        return told

    def asked_width(self, rows, function, question):
        told = width_left(rows, function, question)
        found = self.asked_narrowed(rows, function, question)
        if isinstance(found, NoShare):
            self.check_no_share(rows, told)
            return told
        self.assertIs(told.__class__, Left)
        self.assertEqual(list(vars(told)), ["width", "value", "whole"])
        self.assertTrue(is_told(told.width) and is_told(told.value) and is_told(told.whole))
        least, most = self.ends(rows, question)
        self.assertEqual(fraction(told.whole), most - least)
        if isinstance(found, Fixed):
            self.assertEqual((told.width, told.value), (told.whole, found.number))
        else:
            places = sorted(set(knots_of(found.lower)) | set(knots_of(found.upper)))
            places = sorted(places + [(one + other) / 2 for one, other in zip(places, places[1:])])
            widths = [value_at(found.upper, v) - value_at(found.lower, v) for v in places]
            self.assertEqual(fraction(told.width), max(widths))
            self.assertEqual(fraction(told.value), places[widths.index(max(widths))])
        self.assertLessEqual(fraction(told.width), fraction(told.whole))
        return told


class NewsTest(Case):
    def test_many_questions(self):
        source = random.Random(1)
        counts = {}
        for _ in range(90):
            low, high, rows = some_question(source, 5)
            function = some_function_on(source, low, high, "plain", 1, 4)
            question = some_function_on(source, low, high, "plain", 1, 4)
            self.asked_may_be(rows, function)
            self.asked_width(rows, function, question)
            kind = narrowed(rows, function, question).__class__
            counts[kind] = counts.get(kind, 0) + 1
        self.assertGreater(counts[Narrowed], 40)
        self.assertGreater(min(counts[NoShare], counts[Fixed]), 3)

    def test_an_empty_row(self):
        for rows in ((), []):
            told = self.asked_may_be(rows, TENT)
            self.assertEqual((told.low, told.high, told.high_share), ((0, 1), (1, 1), Share((HALF,), (1,))))
            told = self.asked_narrowed(rows, LINE, TENT)
            self.assertEqual((told.lower, told.upper), (constant(0, 1, 0), TENT))
            told = self.asked_width(rows, LINE, TENT)
            self.assertEqual((told.width, told.value, told.whole), ((1, 1), HALF, (1, 1)))

    def test_the_function_and_the_question_the_same(self):
        rows = (Told(LINE, (1, 4), (3, 4)),)
        told = self.asked_narrowed(rows, LINE, LINE)
        wanted = Broken(((1, 4), (3, 4)), (X,), ((1, 4), (3, 4)))
        self.assertEqual((told.lower, told.upper), (wanted, wanted))
        told = self.asked_width(rows, LINE, LINE)
        self.assertEqual((told.width, told.value, told.whole), ((0, 1), (1, 4), HALF))

    def test_a_mean_that_is_told_already(self):
        rows = (Told(LINE, HALF, HALF),)
        told = self.asked_narrowed(rows, LINE, TENT)
        self.assertEqual((told.number, told.least, told.greatest), (HALF, (0, 1), (1, 1)))
        told = self.asked_width(rows, LINE, TENT)
        self.assertEqual((told.width, told.value, told.whole), ((1, 1), HALF, (1, 1)))
        told = self.asked_narrowed((), constant(0, 1, 7), LINE)
        self.assertEqual((told.number, told.least, told.greatest), ((7, 1), (0, 1), (1, 1)))

    def test_the_least_of_several_values_with_the_greatest_width(self):
        flat = Broken((0, (1, 4), (3, 4), 1), (X * 4, Poly((1,)), 4 - X * 4), (0, 1, 1, 0))
        told = self.asked_width((), LINE, flat)
        self.assertEqual((told.width, told.value, told.whole), ((1, 1), (1, 4), (1, 1)))

    def test_the_greatest_sizes(self):
        source = random.Random(2)
        share = some_share_on(source, Fraction(0), Fraction(5), 5)
        for room in (0, Fraction(1, 3)):
            rows = [told_around(source, f, mean_by(share, f), room) for f in
                    [some_function_on(source, Fraction(0), Fraction(5), "plain", 1, 4) for _ in range(5)]]
            self.asked_width(rows, *[some_function_on(source, Fraction(0), Fraction(5), "plain", 1, 4) for _ in range(2)])

    def test_no_share(self):
        for told in (may_be(NO_SHARE, TENT), narrowed(NO_SHARE, TENT, LINE), width_left(list(NO_SHARE), LINE, TENT)):
            self.check_no_share(NO_SHARE, told)


class ApartTest(Case):
    def test_many_questions(self):
        source = random.Random(3)
        counts = {}
        for k in range(80):
            low, high, rows = some_question(source, 5)
            share = some_share_on(source, low, high, 3)
            others = [told_around(source, f, mean_by(share, f), Fraction(source.randint(-1, 4), 5)) for f in
                      [some_function_on(source, low, high, kind) for kind in ("plain", "upper", "lower")[:k % 4]]]
            question = some_function_on(source, low, high, "plain")
            before = picture((rows, others, question))
            told = apart(rows, others, question)
            self.assertEqual(picture((rows, others, question)), before)
            if self.fits_none(rows, question.knots):
                self.check_no_share(rows, told)
            elif self.fits_none(others, question.knots):
                self.check_no_share(others, told)
            else:
                (a, b), (c, d) = self.ends(rows, question), self.ends(others, question)
                self.assertTrue(is_told(told))
                self.assertEqual(fraction(told), max(abs(a - c), abs(b - d)))
                self.assertEqual(apart(others, rows, question), told)
            counts[told.__class__] = counts.get(told.__class__, 0) + 1
        self.assertGreater(min(counts.values()), 10)

    def test_known_ones(self):
        rows = (Told(LINE, (1, 4), HALF),)
        self.assertEqual(apart(rows, rows, LINE), (0, 1))
        self.assertEqual(apart(rows, [Told(scaled(LINE, 2), HALF, 1)], TENT), (0, 1))
        self.assertEqual(apart(rows, (), LINE), HALF)
        self.assertEqual(apart((), rows, LINE), HALF)
        self.assertEqual(apart((), [], LINE), (0, 1))
        self.assertEqual(apart(rows, (Told(LINE, (1, 3), HALF),), LINE), (1, 12))

    def test_no_share_for_the_first_one_that_none_fits(self):
        other = [Told(LINE, HALF, None), Told(LINE, None, (1, 3)), Told(TENT, 0, 1)]
        self.check_no_share(NO_SHARE, apart(NO_SHARE, other, LINE))
        self.check_no_share(other, apart(other, NO_SHARE, LINE))
        self.check_no_share(other, apart((), other, LINE))


class ErrorsTest(unittest.TestCase):
    def test_one_row(self):
        rows = (Told(LINE, 0, 1),)
        far = constant(0, 2, 1)
        step, cube = closed_step(0, 1, 0, HALF), Broken((0, HALF, 1), (X, X * X * X), (0, HALF, 1))
        calls = ((lambda rows, f: may_be(rows, f)), (lambda rows, f: narrowed(rows, f, LINE)),
                 (lambda rows, f: narrowed(rows, LINE, f)), (lambda rows, f: width_left(rows, f, LINE)),
                 (lambda rows, f: width_left(rows, LINE, f)), (lambda rows, f: apart(rows, (), f)),
                 (lambda rows, f: apart((), rows, f)))
        for call in calls:
            for wrong in NO_ROWS:
                check_error(self, BadRow, {"row": wrong}, call, wrong, far)
            check_error(self, Unlike, {"what": "stretch"}, call, rows + (Told(SQUARE, 0, 1),), far)
            check_error(self, Unlike, {"what": "stretch"}, call, (Told(SQUARE, 0, 1), Told(far, 0, 1)), LINE)
            check_error(self, BadNumber, {"what": "degree", "number": 2}, call, (Told(SQUARE, 0, 1),), cube)
            check_error(self, BadNumber, {"what": "degree", "number": 2}, call, (Told(SQUARE, 0, 1),), step)
            check_error(self, BadNumber, {"what": "degree", "number": 3}, call, rows, cube)
            check_error(self, Unlike, {"what": "kind"}, call, rows, step)
            check_error(self, Unlike, {"what": "kind"}, call, NO_SHARE, scaled(step, -1))

    def test_two_functions(self):
        far, step = constant(0, 2, 1), closed_step(0, 1, 0, HALF)
        cube = Broken((0, 1), (X * X * X,), (0, 1))
        for call in (narrowed, width_left):
            check_error(self, Unlike, {"what": "stretch"}, call, (), LINE, far)
            check_error(self, Unlike, {"what": "stretch"}, call, (), far, LINE)
            check_error(self, BadNumber, {"what": "degree", "number": 2}, call, (), SQUARE, cube)
            check_error(self, BadNumber, {"what": "degree", "number": 3}, call, [], cube, SQUARE)
            check_error(self, BadNumber, {"what": "degree", "number": 2}, call, [], step, SQUARE)
            check_error(self, Unlike, {"what": "kind"}, call, [], step, LINE)
            check_error(self, Unlike, {"what": "kind"}, call, [], LINE, step)

    def test_two_rows(self):
        rows, square = (Told(LINE, 0, 1),), (Told(SQUARE, 0, 1),)
        cube = (Told(Broken((0, 1), (X * X * X,), (0, 1)), 0, 1),)
        for wrong in NO_ROWS:
            check_error(self, BadRow, {"row": wrong}, apart, wrong, 5, LINE)
            check_error(self, BadRow, {"row": wrong}, apart, rows, wrong, constant(0, 2, 1))
        check_error(self, Unlike, {"what": "stretch"}, apart, square, (Told(constant(0, 2, 0), 0, 1),), LINE)
        check_error(self, BadNumber, {"what": "degree", "number": 2}, apart, square, cube, LINE)
        check_error(self, BadNumber, {"what": "degree", "number": 3}, apart, cube, square, SQUARE)
        check_error(self, BadNumber, {"what": "degree", "number": 3}, apart, rows, cube, SQUARE)


class ObjectsTest(unittest.TestCase):
    FIELDS = {MayBe: ["low", "high", "low_share", "high_share"], Narrowed: ["low", "high", "lower", "upper"],
              Fixed: ["number", "least", "greatest"], Left: ["width", "value", "whole"]}

    def test_they_keep_what_they_are_given(self):
        inner = [1, 2]
        for kind, names in self.FIELDS.items():
            for value in ANY_VALUES + ((1, [2]), (2, 4), LINE):
                made = kind(*[value for _ in names])
                self.assertEqual(list(vars(made)), names)
                for name in names:
                    if isinstance(value, list):
                        self.assertIs(getattr(made, name).__class__, tuple)
                        self.assertEqual(getattr(made, name), tuple(value))
                    else:
                        self.assertIs(getattr(made, name), value)
            made = kind(*[[inner, 3] for _ in names])
            for name in names:
                self.assertIs(getattr(made, name)[0], inner)

    def test_each_equals_itself_alone(self):
        made = [kind(*[0 for _ in names]) for kind, names in self.FIELDS.items() for _ in range(2)]
        for k, one in enumerate(made):
            for n, other in enumerate(made):
                self.assertIs(one == other, k == n)


if __name__ == "__main__":
    unittest.main()
