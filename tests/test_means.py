"""[31] to [37]: greatest means to a gap, and whether any share fits, with the conventions of [2]."""

import random
import unittest
from fractions import Fraction

from helpers import ANY_VALUES, check_error, fraction, is_told, pair, picture
from questions import (NO_BITS, check_share, check_sum, mean_by, missed_by, some_function_on, some_question,
                       some_share_on, sum_broken, told_around, worth_by)
from test_broken import value_at
from test_signs import Case as PaperCase
from toldmeans.broken import Broken, closed_step, constant, open_step, scaled, total
from toldmeans.errors import BadNumber, BadRow, Unlike
from toldmeans.means import Above, Barred, Fits, any_fit, greatest_mean, is_above, is_any_fit
from toldmeans.polys import Poly
from toldmeans.shares import Share, Told
from toldmeans.signs import Paper, Split, never_below

X = Poly((0, 1))
HALF = (1, 2)
TINY = Fraction(1, 10 ** 12)


def on(poly, low=0, high=1):
    """A Poly as a plain function on a stretch."""
    return Broken((low, high), (poly,), (poly.at(low), poly.at(high)))


def power(many):
    found = Poly((1,))
    for _ in range(many):
        found = found * X
    return found


def ends_of(f):
    return fraction(f.knots[0]), fraction(f.knots[-1])


LINE = on(X)
SQUARE = on(X * X)


class Case(PaperCase):
    def check_barred(self, rows, told):
        self.assertEqual(list(vars(told)), ["number", "factors", "paper"])
        check_sum(self, rows, told.number, told.factors)
        self.assertLess(worth_by(rows, told.number, told.factors), 0)
        self.check_paper(sum_broken(rows, told.number, told.factors, *ends_of(rows[0].function)), told.paper)

    def greatest(self, g, rows, bits):
        """The answer of greatest_mean, looked at in all ways."""
        before = picture((g, rows))
        told = greatest_mean(g, rows, bits)
        if isinstance(told, Barred):
            self.check_barred(rows, told)
        else:
            gap = Fraction(1, 2 ** bits)
            self.assertEqual(list(vars(told)), ["upper", "number", "factors", "paper", "share"])
            self.assertTrue(is_told(told.upper))
            check_sum(self, rows, told.number, told.factors)
            self.assertEqual(worth_by(rows, told.number, told.factors), fraction(told.upper))
            f = sum_broken(rows, told.number, told.factors, *ends_of(g))
            self.check_paper(total(f, scaled(g, -1)), told.paper)
            check_share(self, told.share, *ends_of(g))
            self.assertLessEqual(missed_by(told.share, rows), gap)
            self.assertGreaterEqual(mean_by(told.share, g), fraction(told.upper) - gap)
        self.assertIs(is_above(g, rows, bits, told), True)
        self.assertEqual(picture((g, rows)), before)
        return told

    def fitted(self, rows, bits):
        """The answer of any_fit, looked at in all ways."""
        before = picture(rows)
        told = any_fit(rows, bits)
        if isinstance(told, Barred):
            self.check_barred(rows, told)
        else:
            self.assertEqual(list(vars(told)), ["share"])
            check_share(self, told.share, *ends_of(rows[0].function))
            self.assertLessEqual(missed_by(told.share, rows), Fraction(1, 2 ** bits))
        self.assertIs(is_any_fit(rows, bits, told), True)
        self.assertEqual(picture(rows), before)
        return told


class GreatestTest(Case):
    def test_many_questions(self):
        source = random.Random(1)
        counts = {Above: 0, Barred: 0}
        for k in range(120):
            low, high, rows = some_question(source, 6, 4)
            g = some_function_on(source, low, high, ("plain", "upper")[k % 2], 4)
            counts[self.greatest(g, rows, source.choice((0, 1, 5, 12, 16))).__class__] += 1
        self.assertGreater(min(counts.values()), 15)

    def test_no_other_share_has_a_greater_mean(self):
        source = random.Random(2)
        for k in range(30):
            low, high = Fraction(0), Fraction(2)
            share = some_share_on(source, low, high, source.randint(1, 5))
            functions = [some_function_on(source, low, high, kind, 4) for kind in ("plain", "upper", "lower")]
            rows = [told_around(source, f, mean_by(share, f), 0) for f in functions]
            g = some_function_on(source, low, high, ("plain", "upper")[k % 2], 4)
            told = self.greatest(g, rows, 10)
            self.assertIsInstance(told, Above)
            self.assertGreaterEqual(fraction(told.upper), mean_by(share, g))

    def near(self, told, wanted, bits):
        """That an upper number is that of a greatest mean, but for the gap."""
        self.assertIsInstance(told, Above)
        self.assertGreaterEqual(fraction(told.upper), wanted)
        self.assertLess(fraction(told.upper), wanted + Fraction(2, 2 ** bits))

    def test_an_empty_row(self):
        for rows in ((), []):
            for bits in (0, 7, 16, 60):
                told = self.greatest(on(X * (1 - X)), rows, bits)
                self.near(told, Fraction(1, 4), bits)
                self.assertEqual(told.factors, ())
            # The greatest value lies at a place that is no ratio: x * (2 - x * x) at the root of 2 / 3.
            told = self.greatest(on(X * (2 - X * X)), rows, 16)
            self.near(told, Fraction(108866211, 10 ** 8), 16)
            self.near(self.greatest(closed_step(0, 1, (1, 3), (1, 3)), rows, 16), 1, 16)

    def test_known_greatest_means(self):
        variance = (Told(LINE, HALF, HALF), Told(SQUARE, None, (1, 3)))
        self.near(self.greatest(on(X * X * X), variance, 16), Fraction(5, 18), 12)
        self.near(self.greatest(LINE, (Told(SQUARE, (1, 4), (1, 4)),), 16), Fraction(1, 2), 13)
        f = on(X, 0, 10)
        self.near(self.greatest(closed_step(0, 10, 8, 10), (Told(f, None, 2),), 16), Fraction(1, 4), 14)
        # Moments of a flat share; the chance up to 1/2 is then at most 5/6.
        moments = [Told(on(power(k)), (1, k + 1), (1, k + 1)) for k in (1, 2, 3)]
        self.near(self.greatest(closed_step(0, 1, 0, HALF), moments[:2], 16), Fraction(5, 6), 8)

    def test_a_steep_fall(self):
        # The document's example: v(0) is 0, v(d) the root of d.
        for bits in (0, 1, 8, 12, 16):
            told = self.greatest(LINE, (Told(SQUARE, None, 0),), bits)
            self.assertIsInstance(told, Above)
            gap = Fraction(1, 2 ** bits)
            self.assertGreaterEqual(told.upper[0], 0)
            self.assertTrue(fraction(told.upper) <= gap or (fraction(told.upper) - gap) ** 2 <= gap)
        for many in (3, 4):
            self.assertIsInstance(self.greatest(LINE, [Told(on(power(many)), None, 0)], 16), Above)

    def test_a_very_narrow_piece(self):
        for width in (TINY, Fraction(1, 10 ** 40)):
            low, high = Fraction(1, 3), Fraction(1, 3) + width
            bump = (X - pair(low)) * (pair(high) - X) * pair(4 / width ** 2)
            f = Broken((0, pair(low), pair(high), 1), (Poly(()), bump, Poly(())), (0, 0, 0, 0))
            self.assertTrue(f.is_plain())
            self.near(self.greatest(f, (), 16), 1, 16)
            self.near(self.greatest(f, (Told(LINE, None, (1, 6)),), 16), Fraction(1, 2), 14)
            self.assertIsInstance(self.greatest(LINE, (Told(f, 1, None),), 16), Above)
            self.assertIsInstance(self.greatest(LINE, (Told(f, pair(1 + Fraction(1, 1000)), None),), 16), Barred)

    def test_jumps(self):
        f = Broken((0, HALF, 1), (X * X, X * X * X), (0, 2, 1))
        self.near(self.greatest(f, (Told(LINE, None, (1, 4)),), 16), 1, 14)
        self.near(self.greatest(f, (Told(LINE, (3, 4), None),), 16), Fraction(3, 2), 14)
        least = greatest_mean(scaled(open_step(0, 1, 0, 1), -1), (Told(SQUARE, (1, 4), (1, 4)),), 16)
        self.near(least, 0, 14)

    def test_bounds_that_miss_one_another(self):
        for bits in (0, 4, 16):
            gap = Fraction(1, 2 ** bits)
            for by, kinds in ((Fraction(-1, 8), (Above,)), (0, (Above,)), (gap / 5, (Above, Barred)),
                              (gap, (Above, Barred)), (2 * gap, (Above, Barred)), (2 * gap + TINY, (Barred,)),
                              (3 * gap, (Barred,))):
                rows = (Told(SQUARE, None, (1, 4)), Told(SQUARE, pair(Fraction(1, 4) + by), None))
                if Fraction(1, 4) + by <= 1:
                    self.assertIn(self.greatest(LINE, rows, bits).__class__, kinds)
                    self.assertIn(self.fitted(rows, bits).__class__, (Fits, Barred) if Above in kinds else (Barred,))

    def test_the_greatest_sizes(self):
        source = random.Random(3)
        most = 10 ** 80 - 1
        knots = [Fraction(-100)] + sorted(Fraction(source.randint(-99 * most, 99 * most), most) for _ in range(6)) + [100]

        def some(kind):
            polys = []
            for low, high in zip(knots, knots[1:]):
                middle, half = (low + high) / 2, (high - low) / 2
                poly = Poly([(source.randint(-200 * most, 200 * most), most - source.randint(0, 9)) for _ in range(5)])
                polys.append(poly.moved(pair(-middle / half), pair(1 / half)))
            f = Broken([pair(knot) for knot in knots], polys, [0 for _ in knots])
            pick = max if kind == "upper" else min
            at = [pick(fraction(one) for one in f.limits(knot) if one is not None) for knot in f.knots]
            return Broken(f.knots, polys, [pair(number) for number in at])

        share = some_share_on(source, Fraction(-100), Fraction(100), 5)
        for room in (Fraction(1, 50), 0, Fraction(-900)):
            functions = [some(kind) for kind in ("upper", "lower") * 3]
            rows = [told_around(source, f, mean_by(share, f), room if k else max(room, 0)) for k, f in enumerate(functions)]
            self.greatest(some("upper"), rows, 16)
            self.fitted(rows + rows, 16)

    def test_errors_in_their_order(self):
        neither = Broken((0, HALF, 1), (X, Poly((3,))), (0, 2, 3))
        rows = (Told(LINE, 0, 1),)
        unlike = (Told(LINE, 0, 1), Told(constant(0, 2, 0), 0, 1))
        for call in (greatest_mean, lambda g, rows, bits: is_above(g, rows, bits, None)):
            for g in (neither, open_step(0, 1, None, HALF), scaled(closed_step(0, 1, 0, HALF), -1), open_step(0, 2, 0, 1)):
                check_error(self, Unlike, {"what": "kind"}, call, g, rows, 3)
                check_error(self, Unlike, {"what": "kind"}, call, g, unlike, -1)
                check_error(self, Unlike, {"what": "kind"}, call, g, (), None)
            check_error(self, Unlike, {"what": "stretch"}, call, LINE, unlike, -1)
            check_error(self, Unlike, {"what": "stretch"}, call, constant(0, 2, 0), rows, 61)
            check_error(self, Unlike, {"what": "stretch"}, call, constant(-1, 1, 0), list(rows), 0)
            for bits in NO_BITS:
                check_error(self, BadNumber, {"what": "bits", "number": bits}, call, LINE, rows, bits)
                check_error(self, BadNumber, {"what": "bits", "number": bits}, call, LINE, (), bits)


class AnyFitTest(Case):
    def test_many_questions(self):
        source = random.Random(4)
        counts = {Fits: 0, Barred: 0}
        for _ in range(100):
            rows = ()
            while len(rows) == 0:
                _, _, rows = some_question(source, 12, 4)
            counts[self.fitted(rows, source.choice((0, 3, 12, 16))).__class__] += 1
        self.assertGreater(min(counts.values()), 15)

    def test_rows_that_a_share_keeps_just_so(self):
        source = random.Random(5)
        for many in (1, 4, 12):
            share = some_share_on(source, Fraction(-1), Fraction(1), 6)
            rows = []
            for _ in range(many):
                f = some_function_on(source, Fraction(-1), Fraction(1), "plain", 4)
                rows.append(Told(f, pair(mean_by(share, f)), pair(mean_by(share, f))))
            self.assertIsInstance(self.fitted(rows, 16), Fits)

    def test_60_bits_where_some_knot_alone_fits(self):
        source = random.Random(6)
        for kind in ("plain", "upper", "lower"):
            functions = [some_function_on(source, Fraction(0), Fraction(3), kind, 4) for _ in range(12)]
            for knot in (Fraction(0), Fraction(3)):
                rows = [told_around(source, f, value_at(f, knot), 0) for f in functions]
                self.assertIsInstance(self.fitted(rows, 60), Fits)
        self.assertIsInstance(self.fitted((Told(SQUARE, 1, None),), 60), Fits)
        self.assertIsInstance(self.fitted((Told(SQUARE, pair(1 + TINY), None),), 60), Barred)

    def test_errors_in_their_order(self):
        unlike = (Told(SQUARE, 0, 1), Told(constant(0, 2, 0), 0, 1))
        for call in (any_fit, lambda rows, bits: is_any_fit(rows, bits, None)):
            check_error(self, Unlike, {"what": "stretch"}, call, unlike, -1)
            for rows in ((), []):
                check_error(self, BadRow, {"row": rows}, call, rows, 5)
                check_error(self, BadRow, {"row": rows}, call, rows, True)
            for bits in NO_BITS:
                check_error(self, BadNumber, {"what": "bits", "number": bits}, call, (Told(SQUARE, 0, 1),), bits)


class JudgeTest(Case):
    # The mean of x * x is at least 1/4: so that of x is at most 1, and at least 1/4.
    rows = (Told(SQUARE, (1, 4), (1, 2)), Told(closed_step(0, 1, 1, 1), (1, 8), None),
            Told(open_step(0, 1, None, HALF), None, (1, 4)))

    def right(self):
        """An Above for x * (2 - x) that one can reckon by hand: it is at most 1, the mean of x = 1."""
        f = total(constant(0, 1, 1), scaled(on(X * (2 - X)), -1))
        return on(X * (2 - X)), (), Above(1, 1, (), never_below(f), Share((1,), (1,)))

    def test_another_right_answer(self):
        g, rows, told = self.right()
        for bits in (0, 16, 60):
            self.assertIs(is_above(g, rows, bits, told), True)
        self.assertIs(is_above(g, [], 5, Above((3, 3), (2, 2), [], told.paper, Share((HALF, 1), ((1, 9), (8, 9))))), True)
        square = Paper((Split(1 - X, Poly((1,)), ()),))
        for paper, wanted in ((square, True), (Paper((Split(X - 1, Poly((1,)), ((1, 3),)),)), True),
                              (Paper((Split(Poly((1,)), (1 - X) * (1 - X), ()),)), True),
                              (Paper((Split(Poly((1,)), 1 - X, ()),)), False), (Paper(()), False), (square.splits, False),
                              (Paper(square.splits * 2), False), (None, False)):
            self.assertIs(is_above(g, (), 60, Above(1, 1, (), paper, Share((1,), (1,)))), wanted)

    def test_a_share_that_comes_near_enough(self):
        g, _, told = self.right()
        for bits in (0, 4, 60):
            gap = Fraction(1, 2 ** bits)
            # The mean of x * (2 - x) is 1 - d at 1, with a part d of 0.
            for d, wanted in ((gap, True), (gap + gap * TINY, False), (gap - gap * TINY, True)):
                if d < 1:
                    share = Share((0, 1), (pair(d), pair(1 - d)))
                    self.assertIs(is_above(g, (), bits, Above(1, 1, (), told.paper, share)), wanted)
        rows = (Told(LINE, 1, None),)
        for bits in (1, 60):
            gap = Fraction(1, 2 ** bits)
            for d, wanted in ((gap, True), (gap + gap * TINY, False)):
                share = Share((pair(1 - d),), (1,))
                self.assertIs(is_above(g, rows, bits, Above(1, 1, (0,), told.paper, share)), wanted)
                self.assertIs(is_any_fit(rows, bits, Fits(share)), wanted)

    def test_one_thing_changed(self):
        g = on(X * (2 - X))
        told = greatest_mean(g, self.rows, 12)
        self.assertIsInstance(told, Above)
        self.assertIs(is_above(g, self.rows, 12, told), True)
        for name, value in (("upper", pair(fraction(told.upper) + TINY)), ("upper", pair(fraction(told.upper) - TINY)),
                            ("number", pair(fraction(told.number) + TINY)), ("number", 9), ("factors", told.factors[:2]),
                            ("factors", told.factors + ((0, 1),)), ("factors", (5, 0, 0)), ("factors", (0, 1, 0)),
                            ("factors", (0, 0, -1)), ("paper", never_below(g)), ("paper", Paper(())),
                            ("share", Share((0,), (1,))), ("share", Share((1, 2), (HALF, HALF))),
                            ("share", Share((-1, 1), (HALF, HALF)))):
            fields = dict(vars(told), **{name: value})
            self.assertIs(is_above(g, self.rows, 12, Above(*fields.values())), False, (name, value))
        self.assertIs(is_above(constant(0, 1, 5), self.rows, 12, told), False)
        self.assertIs(is_above(g, self.rows, 60, told), False)
        terms = (told.upper[0] * 3, told.upper[1] * 3)
        self.assertIs(is_above(g, self.rows, 12, Above(terms, told.number, list(told.factors), told.paper, told.share)), True)

    def test_barred_with_one_thing_changed(self):
        rows = (Told(SQUARE, (3, 4), None), Told(LINE, None, HALF))
        paper = never_below(total(constant(0, 1, 0), total(scaled(SQUARE, -1), LINE)))
        for number, factors, one, wanted in ((0, (-1, 1), paper, True), ((0, 5), ((-3, 3), (2, 2)), paper, True),
                                             (0, [-1, 1], paper, True), (0, (-1, 1), Paper(()), False),
                                             (0, (-1, 1), None, False), (0, (1, -1), paper, False),
                                             (0, (-1, 1, 0), paper, False), (0, (-1,), paper, False),
                                             ((1, 8), (-1, 1), paper, False), ((1, 4), (-1, 1), paper, False),
                                             (True, (-1, 1), paper, False), (0, (0, 0), paper, False),
                                             (0, (-1, [1, 1]), paper, False), (None, None, None, False)):
            for judge in (lambda told: is_above(LINE, rows, 5, told), lambda told: is_any_fit(rows, 5, told)):
                self.assertIs(judge(Barred(number, factors, one)), wanted, (number, factors))
        worth_0 = (Told(LINE, HALF, None), Told(LINE, None, HALF))
        paper = never_below(constant(0, 1, 0))
        self.assertIs(is_any_fit(worth_0, 5, Barred(0, (-1, 1), paper)), False)
        self.assertIs(is_above(LINE, (), 5, Barred(-1, (), Paper(()))), False)
        self.assertIs(is_above(LINE, (), 5, Barred(0, (), paper)), False)

    def test_other_values(self):
        g = on(X * (2 - X))
        above, fitting = greatest_mean(g, self.rows, 9), any_fit(self.rows, 9)
        barred_rows = (Told(SQUARE, (3, 4), None), Told(LINE, None, HALF), Told(LINE, 0, None))
        barred = any_fit(barred_rows, 9)
        self.assertIsInstance(barred, Barred)
        no_ratios = [value for value in ANY_VALUES if value.__class__ not in (int, tuple, list)]
        for rows, told in ((self.rows, above), (self.rows, fitting), (barred_rows, barred)):
            judges = (lambda value: is_above(g, rows, 9, value), lambda value: is_any_fit(rows, 9, value))
            self.assertEqual([judge(told) for judge in judges], [told is not fitting, told is not above])
            for value in list(ANY_VALUES) + [rows, g, above.share, above.paper]:
                self.assertEqual([judge(value) for judge in judges], [False, False])
            for name in vars(told):
                for value in no_ratios + [(), [], (1, 2, 3), ((1, 0), 1), rows, g, told, (None, None, None), (told,) * 3]:
                    made = told.__class__(*dict(vars(told), **{name: value}).values())
                    self.assertEqual([judge(made) for judge in judges], [False, False], (name, value))
        self.assertIs(is_any_fit(self.rows, 9, barred), False)
        self.assertIs(is_any_fit(self.rows, 9, Fits(above)), False)
        self.assertIs(is_above(g, self.rows, 9, Fits(above.share)), False)
        self.assertIs(is_any_fit(self.rows, 9, Fits(above.share)), True)


class ObjectsTest(unittest.TestCase):
    FIELDS = {Above: ["upper", "number", "factors", "paper", "share"], Barred: ["number", "factors", "paper"],
              Fits: ["share"]}

    def test_they_keep_what_they_are_given(self):
        inner = [1, 2]
        for kind, names in self.FIELDS.items():
            for value in ANY_VALUES + ((1, [2]), (2, 4), LINE):
                made = kind(*[value for _ in names])
                self.assertEqual(list(vars(made)), names)
                for name in names:
                    if isinstance(value, list):
                        self.assertIs(getattr(made, name).__class__, tuple)
                        self.assertEqual(getattr(made, name), tuple(value))
                    else:
                        self.assertIs(getattr(made, name), value)
            made = kind(*[[inner, 3] for _ in names])
            for name in names:
                self.assertIs(getattr(made, name)[0], inner)

    def test_each_equals_itself_alone(self):
        made = [kind(*[0 for _ in names]) for kind, names in self.FIELDS.items() for _ in range(2)]
        for k, one in enumerate(made):
            for n, other in enumerate(made):
                self.assertIs(one == other, k == n)


if __name__ == "__main__":
    unittest.main()
