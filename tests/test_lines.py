"""[22] to [30]: broken lines, exactly, with the conventions of [2]."""

import random
import unittest
from fractions import Fraction

from helpers import ANY_VALUES, NO_RATIOS, are_told, check_error, fraction, is_told, pair, picture
from questions import (check_lines_above, check_share_at_knots, check_sum, mean_by, missed_by, some_function_on,
                       some_question, some_share_on, told_around, worth_by)
from test_broken import knots_of, limits_at, value_at
from toldmeans.broken import Broken, closed_step, constant, open_step, scaled
from toldmeans.errors import BadNumber, BadRow, Unlike
from toldmeans.lines import (Bottom, Fitting, Gain, NoShare, Top, as_moves, is_bottom, is_gain, is_line_answer, is_top,
                             least_rows, line_fits, line_greatest, line_least, median, needless, sure_gain)
from toldmeans.polys import Poly
from toldmeans.shares import Share, Told, fits, mixed
from toldmeans.sums import Nothing, largest

X = Poly((0, 1))
HALF = (1, 2)
TINY = Fraction(1, 10 ** 12)
ZERO = constant(0, 1, 0)
LINE = Broken((0, 1), (X,), (0, 1))
SQUARE = Broken((0, 1), (X * X,), (0, 1))
CUBE_BEHIND = Broken((0, HALF, 1), (X, X * X * X), (0, HALF, 1))
NEITHER = Broken((0, HALF, 1), (X, Poly((3,))), (0, 2, 3))
NO_ROWS = (None, 5, "", "ab", {}, {1: 2}, set(), 0.5, object, (1,), [None], [Told(LINE, 0, 1), 5], LINE, Told(LINE, 0, 1),
           (LINE,), ((Told(LINE, 0, 1),),), range(3))


def negative_of(f):
    return scaled(f, -1)


class Case(unittest.TestCase):
    def check_no_share(self, rows, told):
        self.assertIs(told.__class__, NoShare)
        self.assertEqual(list(vars(told)), ["number", "factors"])
        check_sum(self, rows, told.number, told.factors)
        self.assertLess(worth_by(rows, told.number, told.factors), 0)
        knots = rows[0].function.knots
        check_lines_above(self, rows, told.number, told.factors, [constant(knots[0], knots[-1], 0)])

    def check_fitting_share(self, rows, functions, share):
        check_share_at_knots(self, share, functions)
        self.assertEqual(missed_by(share, rows), 0)

    def fitted(self, rows):
        """The answer of line_fits, looked at in all ways."""
        before = picture(rows)
        told = line_fits(rows)
        if isinstance(told, Fitting):
            self.assertEqual(list(vars(told)), ["share"])
            self.check_fitting_share(rows, [row.function for row in rows], told.share)
        else:
            self.check_no_share(rows, told)
        self.assertIs(is_line_answer(rows, told), True)
        self.assertEqual(picture(rows), before)
        return told

    def check_reached(self, rows, function, told, sign):
        functions = [row.function for row in rows] + [function]
        self.assertEqual(list(vars(told)), ["mean", "share", "number", "factors"])
        self.assertTrue(is_told(told.mean))
        self.check_fitting_share(rows, functions, told.share)
        self.assertEqual(mean_by(told.share, function), fraction(told.mean))
        check_sum(self, rows, told.number, told.factors)
        self.assertEqual(worth_by(rows, told.number, told.factors), sign * fraction(told.mean))
        check_lines_above(self, rows, told.number, told.factors, [scaled(function, sign)])

    def topped(self, rows, function):
        before = picture((rows, function))
        told = line_greatest(rows, function)
        if isinstance(told, Top):
            self.check_reached(rows, function, told, 1)
        else:
            self.check_no_share(rows, told)
        self.assertIs(is_top(rows, function, told), True)
        self.assertEqual(picture((rows, function)), before)
        return told

    def bottomed(self, rows, function):
        before = picture((rows, function))
        told = line_least(rows, function)
        if isinstance(told, Bottom):
            self.check_reached(rows, function, told, -1)
        else:
            self.check_no_share(rows, told)
        self.assertIs(is_bottom(rows, function, told), True)
        self.assertEqual(picture((rows, function)), before)
        return told


def known_greatest(rows, function):
    """The greatest mean by largest alone, for an upper line; None if no share fits."""
    functions = [row.function for row in rows] + [function]
    knots = sorted({knot for f in functions for knot in knots_of(f)})
    table, right = [[1 for _ in knots], [-1 for _ in knots]], [1, -1]
    for row in rows:
        values = [value_at(row.function, knot) for knot in knots]
        if row.most is not None:
            table.append([pair(value) for value in values])
            right.append(row.most)
        if row.least is not None:
            table.append([pair(-value) for value in values])
            right.append(pair(-fraction(row.least)))
    told = largest(table, right, [pair(value_at(function, knot)) for knot in knots])
    return None if isinstance(told, Nothing) else fraction(told.number)


class FitsTest(Case):
    def test_many_questions(self):
        source = random.Random(1)
        counts = {Fitting: 0, NoShare: 0}
        for _ in range(200):
            rows = ()
            while len(rows) == 0:
                _, _, rows = some_question(source)
            counts[self.fitted(rows).__class__] += 1
        self.assertGreater(min(counts.values()), 25)

    def test_rows_that_share_mixtures_alone_fit(self):
        # Chances of 1/2 each for three steps, and a mean that fixes the share.
        rows = (Told(closed_step(0, 4, 0, 0), HALF, None), Told(closed_step(0, 4, 4, 4), (1, 4), None),
                Told(Broken((0, 4), (X,), (0, 4)), 2, 2), Told(open_step(0, 4, 0, 4), None, 0))
        told = self.fitted(rows)
        self.assertEqual(told.share, Share((0, 4), (HALF, HALF)))

    def test_bounds_that_are_equal_or_just_miss(self):
        for least, most, wanted in ((0, 0, Fitting), (1, 1, Fitting), (HALF, HALF, Fitting), (1, 2, Fitting),
                                    (pair(1 + TINY), 2, NoShare), (-1, pair(-TINY), NoShare), (-1, 0, Fitting)):
            self.assertIs(self.fitted((Told(LINE, least, most),)).__class__, wanted)
        for most in (0, TINY, -TINY):
            rows = (Told(LINE, HALF, None), Told(LINE, None, pair(Fraction(1, 2) + most)))
            self.assertIs(self.fitted(rows).__class__, NoShare if most < 0 else Fitting)

    def test_jumps_at_knots(self):
        # Above 3/4 there is no place but 1 itself.
        f = Broken((0, 1), (Poly((HALF,)),), (0, 1))
        upper = Broken((0, 1), (Poly((HALF,)),), (HALF, 1))
        self.assertFalse(f.is_upper() or f.is_lower())
        told = self.fitted((Told(upper, 1, None),))
        self.assertEqual(told.share, Share((1,), (1,)))
        self.assertIsInstance(self.fitted((Told(upper, 1, None), Told(LINE, None, (999, 1000)))), NoShare)
        lower = negative_of(upper)
        self.assertIsInstance(self.fitted((Told(lower, None, -1), Told(LINE, None, (999, 1000)))), NoShare)

    def test_errors(self):
        for call in (line_fits, sure_gain, lambda rows: is_line_answer(rows, None), lambda rows: is_gain(rows, None)):
            for rows in NO_ROWS + ((), []):
                check_error(self, BadRow, {"row": rows}, call, rows)
            rows = (Told(LINE, 0, 1), Told(constant(0, 2, 1), 0, None))
            check_error(self, Unlike, {"what": "stretch"}, call, rows)
            check_error(self, Unlike, {"what": "stretch"}, call, rows + (Told(SQUARE, 0, 1),))
            check_error(self, BadNumber, {"what": "degree", "number": 2}, call, [Told(LINE, 0, 1), Told(SQUARE, 0, 1)])
            check_error(self, BadNumber, {"what": "degree", "number": 3}, call,
                        [Told(open_step(0, 1, 0, 1), None, 1), Told(Broken((0, HALF, 1), (X * X, X * X * X), (0, (1, 4), 1)), 0, None),
                         Told(SQUARE, 0, 1)])


class GreatestTest(Case):
    def test_many_questions(self):
        source = random.Random(2)
        counts = {}
        for k in range(250):
            low, high, rows = some_question(source)
            function = some_function_on(source, low, high, ("plain", "upper")[k % 2])
            top = self.topped(rows, function)
            bottom = self.bottomed(rows, negative_of(function))
            self.assertIs(isinstance(top, NoShare), isinstance(bottom, NoShare))
            wanted = known_greatest(rows, function)
            if wanted is None:
                self.assertIsInstance(top, NoShare)
            else:
                self.assertEqual(fraction(top.mean), wanted)
                self.assertEqual(fraction(bottom.mean), -wanted)
            counts[top.__class__] = counts.get(top.__class__, 0) + 1
        self.assertGreater(min(counts[Top], counts[NoShare]), 30)

    def test_an_empty_row(self):
        for rows in ((), []):
            f = Broken((0, 1, 3), (X, 2 - X), (0, 5, -1))
            told = self.topped(rows, f)
            self.assertEqual((told.mean, told.share, told.factors), ((5, 1), Share((1,), (1,)), ()))
            told = self.bottomed(rows, Broken((0, 1, 3), (X, 2 - X), (0, 1, -2)))
            self.assertEqual((told.mean, told.share), ((-2, 1), Share((3,), (1,))))

    def test_at_one_knot_alone(self):
        f = closed_step(0, 1, (1, 3), (1, 3))
        told = self.topped((Told(LINE, HALF, HALF),), f)
        self.assertEqual(told.mean, (3, 4))
        self.assertEqual(self.topped((Told(LINE, None, 0),), f).mean, (0, 1))
        narrow = closed_step(0, 1, (1, 3), pair(Fraction(1, 3) + TINY))
        self.assertEqual(fraction(self.topped((Told(LINE, HALF, HALF),), narrow).mean),
                         Fraction(1, 2) / (Fraction(2, 3) - TINY))

    def test_well_known_bounds(self):
        # A mean of at most m: the chance of k and more is at most m / k.
        f = Broken((0, 10), (X,), (0, 10))
        told = self.topped((Told(f, None, 2),), closed_step(0, 10, 8, 10))
        self.assertEqual(told.mean, (1, 4))
        self.assertEqual(self.bottomed((Told(f, 9, None),), open_step(0, 10, 5, None)).mean, (4, 5))

    def test_twice_the_same_row(self):
        row = Told(LINE, (1, 3), (2, 3))
        for rows in ((row,), (row, row), [row, row, Told(LINE, (1, 3), (2, 3))]):
            self.assertEqual(self.topped(rows, LINE).mean, (2, 3))
            self.assertEqual(self.bottomed(rows, LINE).mean, (1, 3))

    def test_the_greatest_sizes(self):
        source = random.Random(3)
        for bottom in (1, 10 ** 6):
            pool = [Fraction(0), Fraction(10)] + [Fraction(source.randint(1, 10 ** 4 - 1), 1000) for _ in range(38)]
            functions = []
            for _ in range(13):
                knots = sorted(set(source.sample(pool[2:], 6)) | set(pool[:2]))
                polys = [Poly((pair(Fraction(source.randint(-50, 50) * bottom + 1, bottom)), source.randint(-9, 9)))
                         for _ in knots[1:]]
                f = Broken([pair(knot) for knot in knots], polys, [0 for _ in knots])
                at = [max(limit for limit in limits_at(f, knot) if limit is not None) for knot in knots]
                functions.append(Broken(f.knots, polys, [pair(number) for number in at]))
            share = mixed([Share((pair(place),), (1,)) for place in sorted(set(pool))[:8]], [(1, 8)] * 8)
            rows = [Told(f, pair(mean_by(share, f) - Fraction(1, 9)), None) for f in functions[:12]]
            self.assertIsInstance(self.topped(rows, functions[12]), Top)
            self.assertIsInstance(self.fitted(rows), Fitting)

    def test_long_numbers(self):
        source = random.Random(4)
        most = 10 ** 40 - 1
        share = some_share_on(source, Fraction(0), Fraction(1), 4)
        rows = []
        for _ in range(5):
            knots = sorted({Fraction(source.randint(1, most), most + source.randint(1, 99)) for _ in range(4)} | {0, 1})
            polys = [Poly(((source.randint(-most, most), most - source.randint(0, 99)), (source.randint(-most, most), most)))
                     for _ in knots[1:]]
            f = Broken([pair(knot) for knot in knots], polys, [0 for _ in knots])
            at = [max(limit for limit in limits_at(f, knot) if limit is not None) for knot in knots]
            f = Broken(f.knots, polys, [pair(number) for number in at])
            rows.append(Told(f, pair(mean_by(share, f) - Fraction(1, most)), None))
        self.assertIsInstance(self.topped(rows[:4], rows[4].function), Top)

    def test_errors(self):
        upper, lower = closed_step(0, 1, HALF, 1), open_step(0, 1, None, HALF)
        for call, wrong in ((line_greatest, lower), (line_least, upper),
                            (lambda rows, f: is_top(rows, f, None), lower),
                            (lambda rows, f: is_bottom(rows, f, None), upper)):
            for rows in NO_ROWS:
                check_error(self, BadRow, {"row": rows}, call, rows, LINE)
                check_error(self, BadRow, {"row": rows}, call, rows, SQUARE)
            rows = (Told(LINE, 0, 1),)
            check_error(self, Unlike, {"what": "stretch"}, call, rows, constant(0, 2, 1))
            check_error(self, Unlike, {"what": "stretch"}, call, rows + (Told(SQUARE, 0, 1),), constant(-1, 1, 1))
            check_error(self, Unlike, {"what": "stretch"}, call, rows + (Told(constant(0, 3, 1), 0, 1),), SQUARE)
            check_error(self, BadNumber, {"what": "degree", "number": 2}, call, rows, SQUARE)
            check_error(self, BadNumber, {"what": "degree", "number": 3}, call, (), CUBE_BEHIND)
            check_error(self, BadNumber, {"what": "degree", "number": 2}, call, [Told(SQUARE, 0, 1)], CUBE_BEHIND)
            check_error(self, BadNumber, {"what": "degree", "number": 2}, call, [Told(SQUARE, 0, 1)], wrong)
            for rows in ((), rows):
                check_error(self, Unlike, {"what": "kind"}, call, rows, wrong)
                check_error(self, Unlike, {"what": "kind"}, call, rows, NEITHER)


class JudgeTest(Case):
    rows = (Told(LINE, (1, 4), HALF), Told(closed_step(0, 1, (3, 4), 1), (1, 8), None),
            Told(open_step(0, 1, 0, (1, 4)), None, (1, 4)))
    goal = Broken((0, HALF, 1), (X * 2, 2 - X * 2), (0, 1, 0))

    def changed(self, told, names, **fields):
        values = dict(vars(told), **fields)
        return told.__class__(*[values[name] for name in names])

    def test_other_right_fittings(self):
        # Shares at knots that fit, and how they may be told.
        first = Share((0, (3, 4)), (HALF, HALF))
        self.assertIs(is_line_answer(self.rows, Fitting(first)), True)
        self.assertIs(is_line_answer(list(self.rows), Fitting(Share((0, (1, 4), 1), (HALF, (1, 4), (1, 4))))), True)
        for share in (Share((0, (4, 5)), (HALF, HALF)), Share((0, 1), ((7, 8), (1, 8))), Share((0, 1), ((1, 4), (3, 4))),
                      Share((-1, (3, 4)), ((1, 9), (8, 9))), Share(((3, 4), 2), (HALF, HALF)),
                      Share((0, (1, 4), (3, 4)), ((1, 2), pair(Fraction(1, 2) - TINY), pair(TINY)))):
            self.assertIs(is_line_answer(self.rows, Fitting(share)), False)

    def test_other_right_sums(self):
        rows = (Told(LINE, (3, 4), None), Told(LINE, None, (1, 4)))
        for number, factors, wanted in ((0, (-1, 1), True), ((0, 7), ((-2, 2), (3, 3)), True), ((1, 3), (-1, 1), True),
                                        ((-1, 99), (-1, 1), False), (0, (-1, 2), True), (0, (-2, 1), False),
                                        (1, (-2, 1), True), ((1, 2), (-1, 1), False), (0, (0, 0), False),
                                        (0, (1, -1), False), (0, (-1,), False), (0, (-1, 1, 0), False), (0, [-1, 1], True),
                                        (0, ([-1, 1], 1), False), (0, (True, 1), False), (True, (-1, 1), False),
                                        (None, (-1, 1), False), (0, None, False), ([0, 1], (-1, 1), True),
                                        ([0, 0], (-1, 1), False), (([0], 1), (-1, 1), False),
                                        (0.0, (-1, 1), False), (0, "ab", False), (0, ((-1, 0), 1), False)):
            self.assertIs(is_line_answer(rows, NoShare(number, factors)), wanted, (number, factors))
            self.assertIs(is_top(rows, self.goal, NoShare(number, factors)), wanted, (number, factors))
            self.assertIs(is_bottom(rows, self.goal, NoShare(number, factors)), wanted, (number, factors))
        # A sum that is below 0 at a limit or at a number of its own alone.
        rows = (Told(closed_step(0, 1, HALF, HALF), (1, 9), None), Told(closed_step(0, 1, 0, (1, 4)), 1, None))
        self.assertIs(is_line_answer(rows, line_fits(rows)), True)
        self.assertIs(is_line_answer(rows, NoShare(1, (-1, -1))), True)
        self.assertIs(is_line_answer(rows, NoShare(pair(1 - TINY), (-1, -1))), False)

    def test_no_share_where_some_fits(self):
        self.assertIs(is_line_answer(self.rows, NoShare(0, (0, 0, 0))), False)
        self.assertIs(is_line_answer(self.rows, NoShare(-1, (0, 0, 0))), False)
        self.assertIs(is_top((), LINE, NoShare(0, ())), False)
        self.assertIs(is_top((), LINE, NoShare(-1, ())), False)

    def test_tops_with_one_thing_changed(self):
        names = ["mean", "share", "number", "factors"]
        for told, judge, goal in ((line_greatest(self.rows, self.goal), is_top, self.goal),
                                  (line_least(self.rows, self.goal), is_bottom, self.goal)):
            self.assertIs(judge(self.rows, goal, told), True)
            for name, value in (("mean", pair(fraction(told.mean) + TINY)), ("mean", pair(fraction(told.mean) - TINY)),
                                ("number", pair(fraction(told.number) + TINY)),
                                ("number", pair(fraction(told.number) - TINY)), ("factors", told.factors[:2]),
                                ("factors", told.factors + (0,)), ("factors", (1, 1, 1)), ("factors", (-9, -9, -9)),
                                ("factors", ((1, 7), told.factors[1], told.factors[2])),
                                ("share", Share((0, (3, 4)), (HALF, HALF))), ("share", Share((0, 2), (HALF, HALF))),
                                ("share", None), ("mean", list(told.mean)), ("number", list(told.number)),
                                ("factors", tuple(list(factor) for factor in told.factors)), ("mean", True)):
                other = self.changed(told, names, **{name: value})
                if getattr(other, name) != getattr(told, name):
                    self.assertIs(judge(self.rows, goal, other), False, (name, value))
            # In any terms, and as another way of reckoning would tell it.
            doubled = [(2 * top, 2 * bottom) for top, bottom in told.factors]
            other = self.changed(told, names, factors=doubled, number=(told.number[0] * 3, told.number[1] * 3))
            self.assertIs(judge(self.rows, goal, other), True)

    def test_tops_of_other_shares_and_sums(self):
        rows = (Told(LINE, HALF, HALF),)
        flat = constant(0, 1, 3)
        for share in (Share((0, 1), (HALF, HALF)),):
            self.assertIs(is_top(rows, flat, Top(3, share, 3, (0,))), True)
            self.assertIs(is_top(rows, flat, Top((6, 2), share, (5, 2), (1,))), False)
            self.assertIs(is_bottom(rows, flat, Bottom(3, share, -3, (0,))), True)
            self.assertIs(is_bottom(rows, flat, Bottom(3, share, 3, (0,))), False)
        self.assertIs(is_top(rows, flat, Top(3, Share((HALF,), (1,)), 3, (0,))), False)
        more = Broken((0, HALF, 1), (Poly((3,)), Poly((3,))), (3, 3, 3))
        self.assertIs(is_top(rows, more, Top(3, Share((HALF,), (1,)), 3, (0,))), True)

    def test_other_values(self):
        goal = self.goal
        right = ((is_line_answer, (self.rows,), line_fits(self.rows)), (is_gain, (self.rows,), sure_gain(self.rows)),
                 (is_top, (self.rows, goal), line_greatest(self.rows, goal)),
                 (is_bottom, (self.rows, goal), line_least(self.rows, goal)))
        for k, (judge, arguments, _) in enumerate(right):
            for n, (_, _, told) in enumerate(right):
                self.assertIs(judge(*arguments, told), k == n)
        no_ratios = [value for value in ANY_VALUES if value.__class__ not in (int, tuple, list)]
        for judge, arguments, told in right:
            for value in list(ANY_VALUES) + [self.rows, goal, LINE, X]:
                self.assertIs(judge(*arguments, value), False)
            for name, field in vars(told).items():
                for value in no_ratios + [(), [], (1, 2, 3), ((1, 0), 1), self.rows, goal, X, told, (None, None, None),
                                          ((), (), ()), (told, told, told), ([1, 2], [0, 1], [0, 1])]:
                    values = dict(vars(told), **{name: value})
                    self.assertIs(judge(*arguments, told.__class__(*values.values())), False, (name, value))
            for value in no_ratios + [(), []]:
                self.assertIs(judge(*arguments, NoShare(value, (0, 0, 0))), False)
                self.assertIs(judge(*arguments, NoShare(0, value)), False)
                self.assertIs(judge(*arguments, NoShare(0, (value, value, value))), False)


class MedianTest(Case):
    def test_what_it_tells(self):
        for low, high, place in ((0, 4, 1), ((1, 2), [7, 3], 1), (-1, 1, -1), (0, 1, (3, 3)), (-5, 5, [-9, 2])):
            told = median(low, high, place)
            self.assertIs(told.__class__, tuple)
            self.assertEqual([row.__class__ for row in told], [Told, Told])
            for row, ends in zip(told, ((low, place), (place, high))):
                wanted = closed_step(low, high, *ends)
                self.assertEqual(row.function, wanted)
                self.assertEqual((row.least, row.most), ((1, 2), None))
        source = random.Random(5)
        for _ in range(60):
            share = some_share_on(source, Fraction(0), Fraction(3), source.randint(1, 9))
            place = source.choice([fraction(p) for p in share.places] + [Fraction(source.randint(0, 30), 10)])
            below = sum(fraction(part) for p, part in zip(share.places, share.parts) if fraction(p) <= place)
            above = sum(fraction(part) for p, part in zip(share.places, share.parts) if fraction(p) >= place)
            self.assertIs(fits(share, median(0, 3, pair(place))), min(below, above) >= Fraction(1, 2))

    def test_greatest_means_of_shares_with_a_median(self):
        f = Broken((0, 10), (X,), (0, 10))
        self.assertEqual(self.topped(median(0, 10, 3), f).mean, (13, 2))
        self.assertEqual(self.bottomed(list(median(0, 10, 3)), f).mean, (3, 2))

    def test_errors(self):
        for value in NO_RATIOS:
            check_error(self, BadNumber, {"what": "low", "number": value}, median, value, value, value)
            check_error(self, BadNumber, {"what": "high", "number": value}, median, 0, value, value)
            check_error(self, BadNumber, {"what": "place", "number": value}, median, 0, 1, value)
        for low, high in ((0, 0), (1, 0), ((1, 2), [2, 4]), (0, pair(-TINY))):
            check_error(self, BadNumber, {"what": "high", "number": high}, median, low, high, low)
        for place in (-1, 2, pair(-TINY), pair(1 + TINY)):
            check_error(self, BadNumber, {"what": "place", "number": place}, median, 0, 1, place)


class MovesTest(Case):
    def others(self, rows, index, told=None):
        return list(rows[:index]) + ([] if told is None else [told]) + list(rows[index + 1:])

    def check_marks(self, rows, index, function):
        before = picture((rows, function))
        marks = as_moves(rows, index, function)
        self.assertEqual(picture((rows, function)), before)
        self.assertIs(marks.__class__, tuple)
        for mark in marks:
            self.assertTrue(are_told(mark) and len(mark) == 2)
        f = rows[index].function
        low = line_least(self.others(rows, index), f)
        if isinstance(low, NoShare):
            self.assertEqual(marks, ())
            return marks
        self.assertEqual((marks[0][0], marks[-1][0]), (low.mean, line_greatest(self.others(rows, index), f).mean))
        points = [(fraction(t), fraction(v)) for t, v in marks]
        between = []
        slopes = []
        for (t, v), (u, w) in zip(points, points[1:]):
            self.assertLess(t, u)
            slopes.append((w - v) / (u - t))
            between.append(((2 * t + u) / 3, (2 * v + w) / 3))
        for one, other in zip(slopes, slopes[1:]):
            self.assertGreater(one, other)
        for t, v in points + between:
            rows_there = self.others(rows, index, Told(f, pair(t), pair(t)))
            self.assertEqual(fraction(line_greatest(rows_there, function).mean), v)
        return marks

    def test_many_questions(self):
        source = random.Random(6)
        counts = {}
        for k in range(90):
            low, high, rows = some_question(source, 5)
            function = some_function_on(source, low, high, ("plain", "upper")[k % 2])
            for index, row in enumerate(rows):
                if row.function.is_plain():
                    many = len(self.check_marks(rows, index, function))
                    counts[many] = counts.get(many, 0) + 1
        self.assertGreater(counts[0], 5)
        self.assertGreater(counts[1], 3)
        self.assertGreater(sum(many for marks, many in counts.items() if marks > 3), 30)

    def test_known_marks(self):
        row = Told(LINE, 0, 0)
        self.assertEqual(as_moves((row,), 0, LINE), (((0, 1), (0, 1)), ((1, 1), (1, 1))))
        tent = Broken((0, (1, 3), 1), (X * 3, (1 - X) * (3, 2)), (0, 1, 0))
        self.assertEqual(as_moves([row], 0, tent), (((0, 1), (0, 1)), ((1, 3), (1, 1)), ((1, 1), (0, 1))))
        self.assertEqual(as_moves([row], 0, scaled(tent, -1)), (((0, 1), (0, 1)), ((1, 1), (0, 1))))
        self.assertEqual(as_moves([Told(LINE, 5, 6), Told(LINE, HALF, HALF)], 0, tent), (((1, 2), (3, 4)),))
        self.assertEqual(as_moves([Told(LINE, 5, 6), Told(LINE, HALF, HALF)], 1, tent), ())
        step = closed_step(0, 1, HALF, 1)
        self.assertEqual(as_moves([row], 0, step), (((0, 1), (0, 1)), ((1, 2), (1, 1)), ((1, 1), (1, 1))))

    def test_the_row_twice_or_the_function_itself(self):
        row = Told(LINE, (1, 4), HALF)
        for index in (0, 1):
            self.assertEqual(as_moves((row, row), index, LINE), (((1, 4), (1, 4)), ((1, 2), (1, 2))))

    def test_errors(self):
        rows = (Told(LINE, 0, 1), Told(closed_step(0, 1, 0, HALF), HALF, None))
        for wrong in NO_ROWS:
            check_error(self, BadRow, {"row": wrong}, as_moves, wrong, -1, SQUARE)
        check_error(self, Unlike, {"what": "stretch"}, as_moves, rows, -1, constant(0, 2, 0))
        check_error(self, BadNumber, {"what": "degree", "number": 2}, as_moves, rows, -1, SQUARE)
        check_error(self, Unlike, {"what": "kind"}, as_moves, rows, -1, open_step(0, 1, 0, 1))
        for index in (-1, 2, 3, True, False, None, 0.0, "0", (0, 1), [0], 10 ** 30):
            check_error(self, BadNumber, {"what": "index", "number": index}, as_moves, rows, index, LINE)
        check_error(self, BadNumber, {"what": "index", "number": 0}, as_moves, (), 0, LINE)
        check_error(self, Unlike, {"what": "kind"}, as_moves, rows, 1, LINE)


class GainTest(Case):
    def book(self, rows, stakes, place, values):
        """The book by [28], values telling a function's value or limit."""
        found = Fraction(0)
        for row, (one, other) in zip(rows, stakes):
            if fraction(one):
                found += fraction(one) * (fraction(row.least) - values(row.function, place))
            if fraction(other):
                found += fraction(other) * (values(row.function, place) - fraction(row.most))
        return found

    def gained(self, rows):
        before = picture(rows)
        told = sure_gain(rows)
        self.assertEqual(picture(rows), before)
        self.assertIs(told.__class__, Gain)
        self.assertEqual(list(vars(told)), ["number", "stakes", "share"])
        self.assertTrue(is_told(told.number))
        self.assertIs(told.stakes.__class__, tuple)
        self.assertEqual(len(told.stakes), len(rows))
        for row, stake in zip(rows, told.stakes):
            self.assertTrue(are_told(stake) and len(stake) == 2)
            self.assertGreaterEqual(min(fraction(part) for part in stake), 0)
            for bound, part in zip((row.least, row.most), stake):
                self.assertTrue(bound is not None or part == (0, 1))
        self.assertEqual(sum(fraction(part) for stake in told.stakes for part in stake), 1)
        functions = [row.function for row in rows]
        number = fraction(told.number)
        for place in sorted({knot for f in functions for knot in knots_of(f)}):
            self.assertGreaterEqual(self.book(rows, told.stakes, place, value_at), number)
            for side in (0, 1):
                if limits_at(functions[0], place)[side] is not None:
                    self.assertGreaterEqual(
                        self.book(rows, told.stakes, place, lambda f, at, side=side: limits_at(f, at)[side]), number)
        check_share_at_knots(self, told.share, functions)
        for row in rows:
            at = mean_by(told.share, row.function)
            self.assertTrue(row.least is None or at >= fraction(row.least) - number)
            self.assertTrue(row.most is None or at <= fraction(row.most) + number)
        self.assertIs(is_gain(rows, told), True)
        return told

    def test_many_questions(self):
        source = random.Random(7)
        counts = [0, 0, 0]
        for _ in range(150):
            rows = ()
            while len(rows) == 0:
                _, _, rows = some_question(source)
            number = fraction(self.gained(rows).number)
            self.assertIs(number > 0, isinstance(line_fits(rows), NoShare))
            counts[(number > 0) - (number < 0) + 1] += 1
        self.assertGreater(min(counts), 10)

    def test_known_gains(self):
        self.assertEqual(self.gained((Told(LINE, (1, 4), (3, 4)),)).number, (-1, 4))
        self.assertEqual(self.gained((Told(LINE, 2, None),)).number, (1, 1))
        self.assertEqual(self.gained((Told(LINE, None, HALF),)).number, (-1, 2))
        self.assertEqual(self.gained([Told(LINE, (3, 4), None), Told(LINE, None, (1, 4))]).number, (1, 4))
        self.assertEqual(self.gained([Told(LINE, HALF, HALF)]).number, (0, 1))
        self.assertEqual(self.gained([Told(constant(0, 1, 10 ** 9), 0, None)]).number, (-10 ** 9, 1))
        self.assertEqual(self.gained([Told(constant(0, 1, 10 ** 9), None, 0)]).number, (10 ** 9, 1))

    def test_gains_with_one_thing_changed(self):
        rows = (Told(LINE, (3, 4), 2), Told(closed_step(0, 1, 0, HALF), (3, 4), None))
        told = self.gained(rows)
        self.assertEqual(told.number, (1, 12))
        right = (((2, 3), 0), ((1, 3), 0))
        share = told.share
        self.assertIs(is_gain(rows, Gain((2, 24), right, share)), True)
        self.assertIs(is_gain(rows, Gain((1, 12), ((HALF, 0), (HALF, 0)), share)), False)
        for number in (pair(Fraction(1, 12) - TINY), pair(Fraction(1, 12) + TINY), 0, -1, True, None, ([1], 12), (1, 12, 1)):
            self.assertIs(is_gain(rows, Gain(number, right, share)), False)
        for stakes in ((((2, 3), 0), ((1, 3), (1, 100))), (((2, 3), (1, 3)), (0, 0)), (((2, 3), (1, 3)), (0, (1, 3))),
                       (((2, 3), 0),), right + ((0, 0),), ([(2, 3), 0], ((1, 3), 0)), (((2, 3), 0), ((1, 3), 0, 0)),
                       (((1, 3), 0), ((1, 3), 0)), (((4, 3), 0), ((-1, 3), 0)), ((1, 0), (0, 0)), ((0, 0), (1, 0)),
                       (((2, 3), 0), ((1, 3),)), (((2, 3), False), ((1, 3), 0))):
            self.assertIs(is_gain(rows, Gain((1, 12), stakes, share)), False, stakes)
        self.assertIs(is_gain(rows, Gain((1, 12), list(right), share)), True)
        for other in (Share((0, 1), (HALF, HALF)), Share((HALF, 1), ((1, 3), (2, 3))), Share(((1, 4), 1), (HALF, HALF)),
                      Share((-1, 1), (HALF, HALF)), Share((0,), (1,))):
            self.assertIs(is_gain(rows, Gain((1, 12), right, other)), False)


class NeedlessTest(Case):
    def follows(self, rows, index, side):
        """Whether a bound follows from all others, by largest alone."""
        f = rows[index].function
        others = [row for k, row in enumerate(rows) if k != index]
        rest = (None, rows[index].most) if side == 0 else (rows[index].least, None)
        if rest != (None, None):
            others.append(Told(f, *rest))
        if side == 1:
            return known_greatest(others, f) <= fraction(rows[index].most)
        return -known_greatest(others, scaled(f, -1)) >= fraction(rows[index].least)

    def bounds(self, rows):
        return [(index, side) for index, row in enumerate(rows) for side in (0, 1)
                if row.function.is_plain() and (row.least, row.most)[side] is not None]

    def check_needless(self, rows):
        before = picture(rows)
        told = needless(rows)
        left = least_rows(rows)
        self.assertEqual(picture(rows), before)
        if len(rows) == 0 or known_greatest(rows, rows[0].function if rows[0].function.is_upper()
                                             else scaled(rows[0].function, -1)) is not None:
            self.assertEqual(told, tuple(bound for bound in self.bounds(rows) if self.follows(rows, *bound)))
            self.check_left(rows, left)
        else:
            self.check_no_share(rows, told)
            self.check_no_share(rows, left)
        return told

    def check_left(self, rows, left):
        """That least_rows drops each bound in its turn just if it follows from those that are left."""
        self.assertIs(left.__class__, tuple)
        now = [[row.least, row.most] for row in rows]
        for index, side in self.bounds(rows):
            kept_bound = now[index][side]
            tolds = [Told(row.function, *bounds) for row, bounds in zip(rows, now) if bounds != [None, None]]
            at = sum(1 for bounds in now[:index] if bounds != [None, None])
            if self.follows(tolds, at, side):
                now[index][side] = None
            self.assertIsNotNone(kept_bound)
        wanted = [(row, bounds) for row, bounds in zip(rows, now) if bounds != [None, None]]
        self.assertEqual(len(left), len(wanted))
        for one, (row, bounds) in zip(left, wanted):
            self.assertIs(one.__class__, Told)
            self.assertIs(one.function, row.function)
            self.assertEqual([one.least, one.most], bounds)

    def test_many_questions(self):
        source = random.Random(8)
        counts = {}
        for _ in range(80):
            _, _, rows = some_question(source, 4)
            told = self.check_needless(rows)
            counts[told.__class__] = counts.get(told.__class__, 0) + (told != ())
        self.assertGreater(counts[tuple], 15)
        self.assertGreater(counts[NoShare], 5)

    def test_known_ones(self):
        self.assertEqual(needless(()), ())
        self.assertEqual(needless([]), ())
        self.assertEqual(least_rows([]), ())
        row = Told(LINE, 0, HALF)
        self.assertEqual(self.check_needless((row,)), ((0, 0),))
        self.assertEqual(self.check_needless((row, row)), ((0, 0), (0, 1), (1, 0), (1, 1)))
        left = least_rows((row, row))
        self.assertEqual([(one.least, one.most) for one in left], [(None, (1, 2))])
        self.assertEqual(self.check_needless((Told(LINE, -1, 2),)), ((0, 0), (0, 1)))
        self.assertEqual(least_rows((Told(LINE, -1, 2),)), ())
        rows = [Told(LINE, (1, 4), (3, 4)), Told(closed_step(0, 1, 0, HALF), 0, None), Told(LINE, (1, 3), 1)]
        self.assertEqual(self.check_needless(rows), ((0, 0), (2, 1)))
        left = least_rows(rows)
        self.assertIs(left[1], rows[1])
        self.assertEqual([(one.least, one.most) for one in left], [(None, (3, 4)), ((0, 1), None), ((1, 3), None)])

    def test_bounds_just_so_and_a_part_beyond(self):
        for room, wanted in ((0, ((1, 1),)), (TINY, ((1, 1),)), (-TINY, ((0, 1),))):
            rows = (Told(LINE, None, HALF), Told(scaled(LINE, 2), None, pair(1 + room)))
            told = needless(rows)
            self.assertEqual(told, ((0, 1), (1, 1)) if room == 0 else wanted)
            self.assertEqual(self.check_needless(rows), told)

    def test_the_greatest_sizes(self):
        source = random.Random(9)
        share = some_share_on(source, Fraction(0), Fraction(9), 6)
        rows = [told_around(source, f, mean_by(share, f), Fraction(1, 4)) for f in
                [some_function_on(source, Fraction(0), Fraction(9), "plain", 1, 2) for _ in range(8)]]
        self.check_needless(rows)
        marks = as_moves(rows, 0, rows[7].function)
        self.assertGreater(len(marks), 0)

    def test_errors(self):
        for call in (needless, least_rows):
            for rows in NO_ROWS:
                check_error(self, BadRow, {"row": rows}, call, rows)
            check_error(self, Unlike, {"what": "stretch"}, call, (Told(SQUARE, 0, 1), Told(constant(0, 2, 1), 0, 1)))
            check_error(self, BadNumber, {"what": "degree", "number": 2}, call, (Told(LINE, 0, 1), Told(SQUARE, 0, 1)))


class ObjectsTest(unittest.TestCase):
    FIELDS = {Fitting: ["share"], NoShare: ["number", "factors"], Top: ["mean", "share", "number", "factors"],
              Bottom: ["mean", "share", "number", "factors"], Gain: ["number", "stakes", "share"]}

    def test_they_keep_what_they_are_given(self):
        inner = [1, 2]
        for kind, names in self.FIELDS.items():
            for value in ANY_VALUES + ((1, [2]), (2, 4), LINE):
                made = kind(*[value for _ in names])
                self.assertEqual(list(vars(made)), names)
                for name in names:
                    if isinstance(value, list):
                        self.assertIs(getattr(made, name).__class__, tuple)
                        self.assertEqual(getattr(made, name), tuple(value))
                    else:
                        self.assertIs(getattr(made, name), value)
            made = kind(*[[inner, 3] for _ in names])
            for name in names:
                self.assertIs(getattr(made, name)[0], inner)

    def test_each_equals_itself_alone(self):
        made = [kind(*[0 for _ in names]) for kind, names in self.FIELDS.items() for _ in range(2)]
        for k, one in enumerate(made):
            for n, other in enumerate(made):
                self.assertIs(one == other, k == n)


if __name__ == "__main__":
    unittest.main()
