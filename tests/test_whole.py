"""That all parts of the program tell the same of one row of told means, each by its own way."""

import random
import unittest
from fractions import Fraction

from helpers import fraction, pair
from questions import some_function_on, some_question
from toldmeans.broken import closed_step, scaled
from toldmeans.desk import Desk
from toldmeans.errors import MeanError
from toldmeans.lines import (Bottom, Fitting, Gain, NoShare, Top, as_moves, is_line_answer, is_top, least_rows, line_fits,
                             line_greatest, line_least, needless, sure_gain)
from toldmeans.means import Above, Barred, Fits, any_fit, greatest_mean, is_above, is_any_fit
from toldmeans.news import Fixed, MayBe, Narrowed, apart, may_be, narrowed, width_left
from toldmeans.orders import Orders, NearOrder, best_orders, best_stretch, cost_line, least_worst, near_order
from toldmeans.polys import Poly
from toldmeans.shapes import Mixture, Shape, ShapedAbove, ShapedFits, any_shaped, as_share, greatest_shaped
from toldmeans.shares import Share, Told, fits, mean, missed
from toldmeans.texts import broken_text

BITS = 12
GAP = Fraction(1, 2 ** BITS)


def some_lines(seed, many, most_rows=5):
    source = random.Random(seed)
    while many > 0:
        low, high, rows = some_question(source, most_rows)
        if len(rows) > 0:
            many = many - 1
            yield source, low, high, tuple(rows)


class WholeTest(unittest.TestCase):
    def test_whether_any_share_fits(self):
        counts = [0, 0]
        for _, _, _, rows in some_lines(1, 80):
            exact, gain, near = line_fits(rows), sure_gain(rows), any_fit(rows, BITS)
            number = fraction(gain.number)
            self.assertIs(isinstance(exact, Fitting), number <= 0)
            self.assertLessEqual(fraction(missed(gain.share, rows)), max(number, 0))
            if isinstance(exact, Fitting):
                self.assertIsInstance(near, Fits)
                self.assertIs(is_any_fit(rows, 60, Fits(exact.share)), True)
            elif number > GAP:
                self.assertIsInstance(near, Barred)
            if isinstance(near, Barred):
                # What bars by a paper bars by values at knots, too.
                self.assertIs(is_line_answer(rows, NoShare(near.number, near.factors)), True)
            for told in (needless(rows), least_rows(rows)):
                self.assertIs(isinstance(told, NoShare), isinstance(exact, NoShare))
            counts[isinstance(exact, Fitting)] += 1
        self.assertGreater(min(counts), 10)

    def test_greatest_means(self):
        counts = [0, 0]
        for source, low, high, rows in some_lines(2, 80):
            g = some_function_on(source, low, high, source.choice(("plain", "upper")))
            exact, near = line_greatest(rows, g), greatest_mean(g, rows, BITS)
            shaped = greatest_shaped(g, rows, Shape("any", None), BITS)
            least = line_least(rows, scaled(g, -1))
            if isinstance(exact, Top):
                top = fraction(exact.mean)
                self.assertEqual(fraction(least.mean), -top)
                self.assertGreaterEqual(fraction(near.upper), top)
                self.assertGreaterEqual(fraction(shaped.upper), top)
                # A mean that all shares that fit to the gap have at most is a bound for both.
                wide = [Told(row.function, None if row.least is None else pair(fraction(row.least) - GAP),
                             None if row.most is None else pair(fraction(row.most) + GAP)) for row in rows]
                most = fraction(line_greatest(wide, g).mean)
                self.assertLessEqual(fraction(near.upper), most + GAP)
                self.assertLessEqual(fraction(shaped.upper), most + GAP)
                self.assertLessEqual(fraction(mean(as_share(shaped.mixture), g)), most)
            else:
                self.assertIsInstance(least, NoShare)
            counts[isinstance(exact, Top)] += 1
        self.assertGreater(min(counts), 8)

    def test_moves_and_news(self):
        many = 0
        for source, low, high, rows in some_lines(3, 60, 4):
            question = some_function_on(source, low, high, "plain")
            for index, row in enumerate(rows):
                if not row.function.is_plain():
                    continue
                others = rows[:index] + rows[index + 1:]
                marks = as_moves(rows, index, question)
                news, may = narrowed(others, row.function, question), may_be(others, row.function)
                if marks == ():
                    self.assertIsInstance(news, NoShare)
                    self.assertIsInstance(may, NoShare)
                    continue
                self.assertEqual((marks[0][0], marks[-1][0]), (may.low, may.high))
                if len(marks) == 1:
                    self.assertIsInstance(news, Fixed)
                    self.assertEqual((news.number, news.greatest), marks[0])
                else:
                    self.assertEqual(tuple(zip(news.upper.knots, news.upper.at)), marks)
                    left = width_left(others, row.function, question)
                    self.assertEqual(fraction(left.width), fraction(news.upper.value(left.value))
                                     - fraction(news.lower.value(left.value)))
                    many = many + 1
                # The bounds of the row follow just if no mean of its function lies beyond them.
                if isinstance(line_fits(rows), Fitting):
                    found = needless(rows)
                    if row.most is None or row.least is None:
                        for side, bound in ((0, row.least), (1, row.most)):
                            if bound is not None:
                                beyond = may.low if side == 0 else may.high
                                follows = (fraction(beyond) >= fraction(bound), fraction(beyond) <= fraction(bound))[side]
                                self.assertIs((index, side) in found, follows)
        self.assertGreater(many, 30)

    def test_rows_that_are_left_say_the_same(self):
        for source, low, high, rows in some_lines(4, 50, 4):
            question = some_function_on(source, low, high, "plain")
            left = least_rows(rows)
            if not isinstance(left, NoShare):
                self.assertEqual(apart(rows, left, question), (0, 1))
                self.assertEqual(needless(rows) == (), len(left) == len(rows) and all(a is b for a, b in zip(left, rows)))

    def test_orders(self):
        many = 0
        for source, low, high, rows in some_lines(5, 50, 4):
            over, under = pair(Fraction(source.randint(1, 9), 4)), pair(Fraction(source.randint(1, 9), 5))
            ends = (pair(low), pair(high))
            exact, near = least_worst(rows, *ends, over, under), near_order(rows, *ends, over, under, BITS)
            if not isinstance(exact, Orders):
                self.assertIsInstance(exact, NoShare)
                self.assertIsInstance(best_stretch(rows, *ends, over, under), NoShare)
                continue
            cost = fraction(exact.cost)
            self.assertEqual(best_orders(exact.share, over, under).cost, exact.cost)
            for order in (exact.order, *best_stretch(rows, *ends, over, under)):
                self.assertEqual(line_greatest(rows, cost_line(*ends, order, over, under)).mean, exact.cost)
            self.assertIsInstance(near, NearOrder)
            self.assertGreaterEqual(fraction(near.upper), cost)
            self.assertGreaterEqual(fraction(near.upper),
                                    fraction(line_greatest(rows, cost_line(*ends, near.order, over, under)).mean))
            many = many + 1
        self.assertGreater(many, 25)

    def test_shapes_are_among_all_shares(self):
        for source, low, high, rows in some_lines(6, 30, 3):
            g = some_function_on(source, low, high, "plain", 3)
            most = greatest_mean(g, rows, BITS)
            for shape in (Shape("even", pair((low + high) / 2)), Shape("hump", pair(low)), Shape("hump", pair((low + high) / 2)),
                          Shape("even hump", pair((low + high) / 2))):
                told = greatest_shaped(g, rows, shape, BITS)
                if isinstance(told, ShapedAbove) and isinstance(any_shaped(rows, shape, 60), ShapedFits):
                    if isinstance(most, Above):
                        # Both may be off by the gap, and by what the gap allows to the told means.
                        wide = [Told(row.function, None if row.least is None else pair(fraction(row.least) - GAP),
                                     None if row.most is None else pair(fraction(row.most) + GAP)) for row in rows]
                        widest = greatest_mean(g, wide, BITS)
                        self.assertLessEqual(fraction(told.upper), fraction(widest.upper) + 2 * GAP)
                else:
                    self.assertNotIsInstance(told, (Above, Barred))

    def test_the_promises_of_the_desk(self):
        many = 0
        for source, low, high, rows in some_lines(7, 40, 4):
            g = some_function_on(source, low, high, "plain")
            lines = [f"function g = {broken_text(g)}"]
            for k, row in enumerate(rows):
                bounds = [None if bound is None else str(fraction(bound)) for bound in (row.least, row.most)]
                told = f"from {bounds[0]} to {bounds[1]}"
                if None in bounds:
                    told = f"at most {bounds[1]}" if bounds[0] is None else f"at least {bounds[0]}"
                lines.append(f"told n{k} {told} = {broken_text(row.function)}")
            desk = Desk("\n".join(lines))
            top, bottom = line_greatest(rows, g), line_least(rows, g)
            if isinstance(top, NoShare):
                self.assertEqual(desk.kept("g at most -999")[0], True)
                self.assertEqual(desk.kept("g at least 999")[0], True)
                self.assertEqual(desk.kept("some share fits")[0], fraction(sure_gain(rows).number) <= GAP
                                 and desk.kept("some share fits")[0])
                continue
            self.assertEqual(desk.kept("some share fits"), (True, None))
            tiny = Fraction(1, 10 ** 9)
            most, least = fraction(top.mean), fraction(bottom.mean)
            if max(len(str(part)) for part in top.mean + bottom.mean) <= 18:
                for promise, wanted in ((f"g at most {most}", True), (f"g at most {most - tiny}", False),
                                        (f"g at least {least}", True), (f"g at least {least + tiny}", False)):
                    self.assertIs(desk.kept(promise)[0], wanted)
            found = needless(rows)
            for k, row in enumerate(rows):
                if row.function.is_plain() and (row.least is None or row.most is None):
                    self.assertIs(desk.kept(f"n{k} says nothing")[0], (k, 0 if row.most is None else 1) in found)
            order = pair((low + high) / 2)
            worst = fraction(line_greatest(rows, cost_line(pair(low), pair(high), order, 1, 2)).mean)
            if worst.denominator < 10 ** 18:
                text = f"order {fraction(order)} over 1 under 2 at most"
                self.assertIs(desk.kept(f"{text} {worst}")[0], True)
                self.assertIs(desk.kept(f"{text} {worst - tiny}")[0], False)
            many = many + 1
        self.assertGreater(many, 20)

    def test_objects_of_unlike_classes_are_never_equal(self):
        share = Share((0, 1), ((1, 2), (1, 2)))
        step = closed_step(0, 1, 0, 1)
        made = [share, step, Poly((1,)), Told(step, 0, 1), Shape("any", None), Mixture(None, None, None), Fitting(share),
                NoShare(0, ()), Top(0, share, 0, ()), Bottom(0, share, 0, ()), Gain(0, (), share), Above(0, 0, (), None, share),
                Barred(0, (), None), Fits(share), MayBe(0, 0, share, share), Narrowed(0, 0, step, step), Fixed(0, 0, 0),
                Orders(0, 0, 0, (), share), NearOrder(0, 0, 0, (), (), share), ShapedFits(None), Desk(), MeanError()]
        for k, one in enumerate(made):
            for n, other in enumerate(made):
                self.assertIs(one == other, k == n)
                self.assertIs(one != other, k != n)

    def test_answers_can_be_judged_by_others(self):
        # An exact greatest mean, told as one to a gap, and the other way round where the share fits just so.
        source = random.Random(8)
        many = 0
        for _ in range(40):
            low, high, rows = some_question(source, 4)
            g = some_function_on(source, low, high, "plain")
            near = greatest_mean(g, rows, BITS)
            if isinstance(near, Above):
                self.assertIs(is_above(g, list(rows), BITS, near), True)
                self.assertIs(is_above(g, rows, BITS, Above(near.upper, near.number, list(near.factors), near.paper, near.share)),
                              True)
                exact = Top(near.upper, near.share, near.number, near.factors)
                right = fits(near.share, rows) and mean(near.share, g) == near.upper
                knots = {knot for f in [g] + [row.function for row in rows] for knot in f.knots}
                self.assertIs(is_top(rows, g, exact), right and set(near.share.places) <= knots)
                many = many + 1
        self.assertGreater(many, 20)


if __name__ == "__main__":
    unittest.main()
