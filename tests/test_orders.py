"""[46] to [51]: orders and their costs, with the conventions of [2]."""

import random
import unittest
from fractions import Fraction

from helpers import ANY_VALUES, NO_RATIOS, check_error, fraction, in_any_terms, is_told, pair, picture
from questions import (NO_BITS, check_lines_above, check_share, check_sum, missed_by, some_question, some_share_on,
                       sum_broken, worth_by)
from test_broken import Case as BrokenCase
from test_broken import knots_of, places_of
from test_lines import NO_ROWS
from test_lines import Case as LineCase
from test_means import Case as PaperCase
from toldmeans.broken import Broken, closed_step, constant, scaled, total
from toldmeans.errors import BadInterval, BadNumber, BadRow, Unlike
from toldmeans.lines import NoShare, line_greatest, median
from toldmeans.means import Barred
from toldmeans.orders import (Best, NearOrder, Orders, best_orders, best_stretch, cost_line, cost_of, is_near_order,
                              is_orders, least_worst, near_order)
from toldmeans.polys import Poly
from toldmeans.shares import Share, Told
from toldmeans.signs import Paper, never_below

X = Poly((0, 1))
HALF = (1, 2)
TINY = Fraction(1, 10 ** 12)
LINE = Broken((0, 1), (X,), (0, 1))
SQUARE = Broken((0, 1), (X * X,), (0, 1))
NO_COSTS = NO_RATIOS + (0, -1, (0, 5), (-1, 3), [0, 2])
NO_STRETCHES = ((1, 1), (1, 0), (None, 1), (0, None), (True, 2), ("0", "1"), ((1, 0), 2), (0, [1, -1]), ((1, 2), [2, 4]))


def cost_at(place, order, over, under):
    return over * (order - place) if place <= order else under * (place - order)


def cost_by(share, order, over, under):
    return sum(fraction(part) * cost_at(fraction(place), order, over, under)
               for place, part in zip(share.places, share.parts))


def least_cost_by(share, over, under):
    """The least mean cost: it bends at places alone, so the best order is one of them."""
    return min(cost_by(share, fraction(place), over, under) for place in share.places)


def some_costs(source):
    return Fraction(source.randint(1, 9), source.randint(1, 9)), Fraction(source.randint(1, 9), source.choice((1, 2, 9)))


class CostTest(BrokenCase):
    def test_cost_line(self):
        source = random.Random(1)
        for k in range(60):
            low, high = Fraction(source.randint(-5, 0), 3), Fraction(source.randint(1, 9), 2)
            over, under = some_costs(source)
            order = (low, high, low + (high - low) * Fraction(source.randint(1, 9), 10))[k % 3]
            found = cost_line(*[in_any_terms(source, number) for number in (low, high, order, over, under)])
            self.assertTrue(found.is_plain() and found.is_line())
            self.check_values(found, lambda x: cost_at(x, order, over, under), set(places_of(found)) | {order})
            self.check_joined(found)
            self.assertEqual(knots_of(found), sorted({low, order, high}))

    def test_cost_of(self):
        source = random.Random(2)
        for _ in range(60):
            share = some_share_on(source, Fraction(-1), Fraction(3), source.randint(1, 9))
            over, under = some_costs(source)
            order = Fraction(source.randint(-30, 50), 10)
            before = picture(share)
            found = cost_of(share, *[in_any_terms(source, number) for number in (order, over, under)])
            self.assertTrue(is_told(found))
            self.assertEqual(fraction(found), cost_by(share, order, over, under))
            self.assertEqual(picture(share), before)

    def test_best_orders(self):
        source = random.Random(3)
        counts = [0, 0]
        for k in range(150):
            share = some_share_on(source, Fraction(-1), Fraction(3), source.randint(1, 9))
            over, under = some_costs(source)
            if k % 2:
                # Costs for which the parts up to some place add up to just the level of the best orders.
                up_to = sum(fraction(part) for part in share.parts[:source.randint(1, len(share.parts))])
                over, under = (1 - up_to, up_to) if up_to < 1 else (over, under)
            found = best_orders(share, in_any_terms(source, over), in_any_terms(source, under))
            self.assertIs(found.__class__, Best)
            self.assertEqual(list(vars(found)), ["cost", "first", "last"])
            self.assertTrue(is_told(found.cost) and is_told(found.first) and is_told(found.last))
            first, last, cost = fraction(found.first), fraction(found.last), fraction(found.cost)
            self.assertEqual(cost, least_cost_by(share, over, under))
            for order in (first, last, (first + last) / 2):
                self.assertEqual(cost_by(share, order, over, under), cost)
            for order in (first - TINY, last + TINY):
                self.assertGreater(cost_by(share, order, over, under), cost)
            counts[first < last] += 1
        self.assertGreater(min(counts), 30)

    def test_known_ones(self):
        found = best_orders(Share((0, 1), (HALF, HALF)), 1, 1)
        self.assertEqual((found.cost, found.first, found.last), (HALF, (0, 1), (1, 1)))
        found = best_orders(Share((0, 1, 2), ((1, 4), HALF, (1, 4))), 1, 3)
        self.assertEqual((found.cost, found.first, found.last), ((1, 1), (1, 1), (2, 1)))
        found = best_orders(Share((5,), (1,)), (1, 1000), 1000)
        self.assertEqual((found.cost, found.first, found.last), ((0, 1), (5, 1), (5, 1)))

    def test_errors_in_their_order(self):
        share = Share((0, 1), (HALF, HALF))
        calls = (lambda over, under: cost_line(3, 1, None, over, under), lambda over, under: cost_of(share, "x", over, under),
                 lambda over, under: best_orders(share, over, under),
                 lambda over, under: least_worst(None, 3, 1, over, under),
                 lambda over, under: best_stretch(None, 3, 1, over, under),
                 lambda over, under: is_orders(None, 3, 1, over, under, None),
                 lambda over, under: near_order(None, 3, 1, over, under, None),
                 lambda over, under: is_near_order(None, 3, 1, over, under, None, None))
        for call in calls:
            for value in NO_COSTS:
                check_error(self, BadNumber, {"what": "over", "number": value}, call, value, 0)
                check_error(self, BadNumber, {"what": "under", "number": value}, call, (1, 1000), value)
        for low, high in NO_STRETCHES:
            check_error(self, BadInterval, {"low": low, "high": high}, cost_line, low, high, None, 1, 1)
        for value in NO_RATIOS + (-1, 2, pair(-TINY), pair(1 + TINY)):
            check_error(self, BadNumber, {"what": "order", "number": value}, cost_line, 0, 1, value, 1, 1)
        for value in NO_RATIOS:
            check_error(self, BadNumber, {"what": "order", "number": value}, cost_of, share, value, 1, 1)
        self.assertEqual(cost_of(share, -7, 1, 1), (15, 2))


class WorstCase(LineCase):
    def worst(self, rows, low, high, over, under):
        """The answer of least_worst, looked at in both ways of [48]."""
        arguments = (rows, pair(low), pair(high), pair(over), pair(under))
        before = picture(arguments)
        told = least_worst(*arguments)
        if isinstance(told, NoShare):
            self.check_no_share(rows, told)
        else:
            self.assertIs(told.__class__, Orders)
            self.assertEqual(list(vars(told)), ["cost", "order", "number", "factors", "share"])
            self.assertTrue(is_told(told.cost) and is_told(told.order))
            order = fraction(told.order)
            self.assertTrue(low <= order <= high)
            check_sum(self, rows, told.number, told.factors)
            self.assertEqual(worth_by(rows, told.number, told.factors), fraction(told.cost))
            lines = [Broken((pair(low), pair(high)), (poly,), (poly.at(pair(low)), poly.at(pair(high))))
                     for poly in ((pair(order) - X) * pair(over), (X - pair(order)) * pair(under))]
            check_lines_above(self, rows, told.number, told.factors, lines)
            check_share(self, told.share, low, high)
            self.assertEqual(missed_by(told.share, rows), 0)
            self.assertGreaterEqual(least_cost_by(told.share, over, under), fraction(told.cost))
        self.assertIs(is_orders(*arguments, told), True)
        self.assertEqual(picture(arguments), before)
        return told

    def worst_of(self, rows, low, high, order, over, under):
        """The worst cost of an order."""
        return fraction(line_greatest(rows, cost_line(pair(low), pair(high), pair(order), pair(over), pair(under))).mean)

    def check_stretch(self, rows, low, high, over, under):
        told = self.worst(rows, low, high, over, under)
        found = best_stretch(rows, pair(low), pair(high), pair(over), pair(under))
        if isinstance(told, NoShare):
            self.check_no_share(rows, found)
            return None
        self.assertIs(found.__class__, tuple)
        self.assertTrue(len(found) == 2 and is_told(found[0]) and is_told(found[1]))
        first, last, cost = fraction(found[0]), fraction(found[1]), fraction(told.cost)
        self.assertTrue(low <= first <= fraction(told.order) <= last <= high)
        for order in (first, last, (first + last) / 2):
            self.assertEqual(self.worst_of(rows, low, high, order, over, under), cost)
        for order in (first - TINY, last + TINY, (low + first) / 2, (high + last) / 2):
            if low <= order <= high and not first <= order <= last:
                self.assertGreater(self.worst_of(rows, low, high, order, over, under), cost)
        return first, last


class LeastWorstTest(WorstCase):
    def test_many_questions(self):
        source = random.Random(4)
        counts = {}
        for _ in range(100):
            low, high, rows = some_question(source, 5)
            found = self.check_stretch(rows, low, high, *some_costs(source))
            kind = None if found is None else found[0] < found[1]
            counts[kind] = counts.get(kind, 0) + 1
        self.assertGreater(counts[None], 10)
        self.assertGreater(counts[False], 40)

    def test_stretches_of_best_orders(self):
        # The share is known: 0 and 4, a half each. All orders between cost the same.
        rows = (Told(closed_step(0, 4, 0, 0), HALF, None), Told(closed_step(0, 4, 4, 4), HALF, None))
        self.assertEqual(self.check_stretch(rows, Fraction(0), Fraction(4), Fraction(3), Fraction(3)), (0, 4))
        self.assertEqual(self.check_stretch(rows, Fraction(0), Fraction(4), Fraction(3), Fraction(2)), (0, 0))
        self.assertEqual(self.check_stretch(rows, Fraction(0), Fraction(4), Fraction(2), Fraction(3)), (4, 4))
        inner = (Told(closed_step(0, 4, 1, 1), HALF, None), Told(closed_step(0, 4, 3, 3), (1, 4), None),
                 Told(closed_step(0, 4, 4, 4), (1, 4), None))
        self.assertEqual(self.check_stretch(inner, Fraction(0), Fraction(4), Fraction(1), Fraction(1)), (1, 3))
        self.assertEqual(self.check_stretch(inner, Fraction(0), Fraction(4), Fraction(1), Fraction(3)), (3, 4))

    def test_an_empty_row(self):
        for rows in ((), []):
            self.assertEqual(self.check_stretch(rows, Fraction(0), Fraction(1), Fraction(1), Fraction(1)),
                             (Fraction(1, 2), Fraction(1, 2)))
            told = self.worst(rows, Fraction(-1), Fraction(3), Fraction(1), Fraction(3))
            self.assertEqual((told.cost, told.order), ((3, 1), (2, 1)))

    def test_a_told_mean(self):
        # Of shares from 0 to 1 with the mean 1/4: an order of 0 costs under / 4 for all.
        rows = (Told(LINE, (1, 4), (1, 4)),)
        told = self.worst(rows, Fraction(0), Fraction(1), Fraction(3), Fraction(1))
        self.assertEqual((told.cost, told.order), ((1, 4), (0, 1)))
        self.assertEqual(self.check_stretch(rows, Fraction(0), Fraction(1), Fraction(3), Fraction(1)), (0, 0))
        # At over / (over + under) = 3 / 4 all orders cost the same for 0 and 1 with these parts.
        self.assertEqual(self.check_stretch(rows, Fraction(0), Fraction(1), Fraction(1), Fraction(3)),
                         (Fraction(0), Fraction(1)))
        self.assertEqual(self.check_stretch(list(median(0, 10, 3)), Fraction(0), Fraction(10), Fraction(1), Fraction(1)),
                         (Fraction(3, 2), Fraction(13, 2)))

    def test_the_greatest_sizes(self):
        source = random.Random(5)
        for over, under in ((Fraction(1, 1000), Fraction(1000)), (Fraction(7), Fraction(5, 3))):
            low, high, rows = some_question(source, 0)
            while len(rows) < 12:
                low, high, rows = some_question(source, 12, 1, 4)
            self.check_stretch(rows, low, high, over, under)

    def test_errors_in_their_order(self):
        rows = (Told(LINE, 0, 1),)
        square = Told(SQUARE, 0, 1)
        for call in (least_worst, best_stretch, lambda *arguments: is_orders(*arguments, None)):
            for low, high in NO_STRETCHES:
                check_error(self, BadInterval, {"low": low, "high": high}, call, None, low, high, 1, 1)
            for wrong in NO_ROWS:
                check_error(self, BadRow, {"row": wrong}, call, wrong, 0, 1, 1, 1)
            for low, high in ((0, 2), (-1, 1), (pair(TINY), 1), (5, 6)):
                check_error(self, Unlike, {"what": "stretch"}, call, rows + (square,), low, high, 1, 1)
            check_error(self, Unlike, {"what": "stretch"}, call, (square, Told(constant(0, 2, 0), 0, 1)), 0, 1, 1, 1)
            check_error(self, BadNumber, {"what": "degree", "number": 2}, call, rows + (square,), 0, 1, 1, 1)
        for low, high in ((0, 1), ((0, 3), [5, 5])):
            self.assertIsInstance(least_worst(rows, low, high, 1, 1), Orders)

    def test_judged(self):
        rows = (Told(LINE, (1, 4), HALF), Told(closed_step(0, 1, 0, HALF), HALF, None))
        told = least_worst(rows, 0, 1, 2, 3)
        names = ["cost", "order", "number", "factors", "share"]
        self.assertIs(is_orders(rows, 0, 1, 2, 3, told), True)
        self.assertIs(is_orders(list(rows), (0, 3), [1, 1], (4, 2), 3, told), True)
        for name, value in (("cost", pair(fraction(told.cost) + TINY)), ("cost", pair(fraction(told.cost) - TINY)),
                            ("order", pair(fraction(told.order) + TINY)), ("order", pair(fraction(told.order) - TINY)),
                            ("order", -1), ("order", 2), ("number", 5), ("number", pair(fraction(told.number) - TINY)),
                            ("factors", told.factors[:1]), ("factors", told.factors + (0,)), ("factors", (0, 1)),
                            ("share", Share((0,), (1,))), ("share", Share((0, 1), ((3, 4), (1, 4)))),
                            ("share", Share((0, 2), (HALF, HALF)))):
            made = Orders(*[dict(vars(told), **{name: value})[key] for key in names])
            self.assertIs(is_orders(rows, 0, 1, 2, 3, made), False, (name, value))
        doubled = Orders((told.cost[0] * 2, told.cost[1] * 2), told.order, told.number, list(told.factors), told.share)
        self.assertIs(is_orders(rows, 0, 1, 2, 3, doubled), True)
        self.assertIs(is_orders(rows, 0, 1, 3, 2, told), False)
        # Reckoned by hand: without rows the order 1/2 costs at most 1/2, and 0 and 1, a half each, at least 1/2.
        halves = Share((0, 1), (HALF, HALF))
        self.assertIs(is_orders((), 0, 1, 1, 1, Orders(HALF, HALF, (2, 4), (), halves)), True)
        self.assertIs(is_orders((), 0, 1, 1, 1, Orders(HALF, HALF, 1, (), halves)), False)
        self.assertIs(is_orders((), 0, 1, 1, 1, Orders(HALF, (1, 3), HALF, (), halves)), False)
        self.assertIs(is_orders((), 0, 1, 1, 1, Orders(HALF, HALF, HALF, (), Share((0, HALF, 1), ((1, 4), HALF, (1, 4))))),
                      False)
        # A share whose places are no knots.
        rows = (Told(closed_step(0, 4, 1, 3), 1, None),)
        told = least_worst(rows, 0, 4, 1, 1)
        self.assertEqual((told.cost, told.order), ((1, 1), (2, 1)))
        self.assertIs(is_orders(rows, 0, 4, 1, 1, Orders(1, 2, told.number, told.factors,
                                                         Share((1, 2, 3), ((49, 100), (1, 50), (49, 100))))), False)

    def test_judged_where_no_share_fits(self):
        rows = (Told(LINE, (3, 4), None), Told(LINE, None, (1, 4)))
        for number, factors, wanted in ((0, (-1, 1), True), (0, (-2, 2), True), ((1, 2), (-1, 1), False), (0, (1, -1), False)):
            self.assertIs(is_orders(rows, 0, 1, 1, 1, NoShare(number, factors)), wanted)
        self.assertIs(is_orders((), 0, 1, 1, 1, NoShare(-1, ())), False)
        self.assertIs(is_orders((), 0, 1, 1, 1, NoShare(0, ())), False)

    def test_other_values(self):
        rows = (Told(LINE, (1, 4), HALF), Told(closed_step(0, 1, 0, HALF), HALF, None))
        told = least_worst(rows, 0, 1, 2, 3)
        no_ratios = [value for value in ANY_VALUES if value.__class__ not in (int, tuple, list)]
        for value in list(ANY_VALUES) + [rows, LINE, told.share]:
            self.assertIs(is_orders(rows, 0, 1, 2, 3, value), False)
        for name in vars(told):
            for value in no_ratios + [(), [], (1, 2, 3), ((1, 0), 1), rows, LINE, told, (None, None)]:
                made = Orders(*dict(vars(told), **{name: value}).values())
                self.assertIs(is_orders(rows, 0, 1, 2, 3, made), False, (name, value))


class NearCase(PaperCase):
    def nearly(self, rows, low, high, over, under, bits):
        arguments = (rows, pair(low), pair(high), pair(over), pair(under), bits)
        before = picture(arguments)
        told = near_order(*arguments)
        if isinstance(told, Barred):
            self.check_barred(rows, told)
        else:
            self.assertIs(told.__class__, NearOrder)
            self.assertEqual(list(vars(told)), ["order", "upper", "number", "factors", "papers", "share"])
            self.assertTrue(is_told(told.order) and is_told(told.upper))
            order, gap = fraction(told.order), Fraction(1, 2 ** bits)
            self.assertTrue(low <= order <= high)
            check_sum(self, rows, told.number, told.factors)
            self.assertEqual(worth_by(rows, told.number, told.factors), fraction(told.upper))
            f = sum_broken(rows, told.number, told.factors, low, high)
            self.assertIs(told.papers.__class__, tuple)
            self.assertEqual(len(told.papers), 2)
            for poly, paper in zip(((pair(order) - X) * pair(over), (X - pair(order)) * pair(under)), told.papers):
                line = Broken((pair(low), pair(high)), (poly,), (poly.at(pair(low)), poly.at(pair(high))))
                self.check_paper(total(f, scaled(line, -1)), paper)
            check_share(self, told.share, low, high)
            self.assertLessEqual(missed_by(told.share, rows), gap)
            self.assertGreaterEqual(least_cost_by(told.share, over, under), fraction(told.upper) - gap)
        self.assertIs(is_near_order(*arguments, told), True)
        self.assertEqual(picture(arguments), before)
        return told


class NearOrderTest(NearCase):
    def test_many_questions(self):
        source = random.Random(6)
        counts = {NearOrder: 0, Barred: 0}
        for k in range(100):
            low, high, rows = some_question(source, 4, 4)
            if k % 5 == 0:
                # No share has a mean of x far below low.
                rows = [*rows, Told(Broken((pair(low), pair(high)), (X,), (pair(low), pair(high))), None, pair(low - 1))]
            counts[self.nearly(rows, low, high, *some_costs(source), source.choice((0, 3, 8, 12))).__class__] += 1
        self.assertGreater(min(counts.values()), 10)

    def test_lines_as_least_worst_tells_them(self):
        source = random.Random(7)
        for _ in range(40):
            low, high, rows = some_question(source, 4)
            over, under = some_costs(source)
            told = self.nearly(rows, low, high, over, under, 12)
            known = least_worst(rows, pair(low), pair(high), pair(over), pair(under))
            if isinstance(known, Orders):
                self.assertIsInstance(told, NearOrder)
                self.assertGreaterEqual(fraction(told.upper), fraction(known.cost))

    def test_a_mean_and_a_spread(self):
        # The mean 0 and the mean of x * x at most 1: the order 0 costs at most 1/2 * (over + under) / 2 * .. = 1 for 1, 1.
        f = Broken((-9, 9), (X,), (-9, 9))
        rows = (Told(f, 0, 0), Told(Broken((-9, 9), (X * X,), (81, 81)), None, 1))
        told = self.nearly(rows, Fraction(-9), Fraction(9), Fraction(1), Fraction(1), 12)
        self.assertLess(abs(fraction(told.upper) - 1), Fraction(1, 1000))
        self.assertLess(abs(fraction(told.order)), Fraction(1, 20))

    def test_an_empty_row(self):
        told = self.nearly((), Fraction(0), Fraction(1), Fraction(1), Fraction(1), 12)
        self.assertLess(abs(fraction(told.order) - Fraction(1, 2)), Fraction(1, 1000))

    def test_the_greatest_sizes(self):
        source = random.Random(8)
        top = 10 ** 40 - 1
        for over, under in ((Fraction(top, 10 ** 37), Fraction(top - 5, 10 ** 43)), (Fraction(1000), Fraction(1000))):
            low, high = Fraction(-100), Fraction(100)
            share = some_share_on(source, low, high, 4)
            rows = []
            for k in range(4):
                poly = Poly([pair(Fraction(source.randint(-top, top), top) * 2000 / 100 ** n) for n in range(5)])
                f = Broken((-100, 100), (poly,), (poly.at(-100), poly.at(100)))
                number = sum(fraction(part) * fraction(f.value(place)) for place, part in zip(share.places, share.parts))
                rows.append(Told(f, pair(number - k % 2), pair(number + Fraction(1, 9))))
            self.assertIsInstance(self.nearly(rows, low, high, over, under, 12), NearOrder)

    def test_errors_in_their_order(self):
        rows = (Told(LINE, 0, 1), Told(SQUARE, 0, 1))
        for call in (near_order, lambda *arguments: is_near_order(*arguments, None)):
            for low, high in NO_STRETCHES:
                check_error(self, BadInterval, {"low": low, "high": high}, call, None, low, high, 1, 1, -1)
            for wrong in NO_ROWS:
                check_error(self, BadRow, {"row": wrong}, call, wrong, 0, 1, 1, 1, -1)
            for low, high in ((0, 2), (-1, 1), (pair(TINY), 1)):
                check_error(self, Unlike, {"what": "stretch"}, call, rows, low, high, 1, 1, -1)
            for bits in NO_BITS:
                check_error(self, BadNumber, {"what": "bits", "number": bits}, call, rows, 0, 1, 1, 1, bits)
                check_error(self, BadNumber, {"what": "bits", "number": bits}, call, (), 0, 1, 1, 1, bits)

    def test_judged(self):
        # Reckoned by hand: the order 1/2 costs at most 1/2; the sum 1/2 less 1/2 - x is x, less x - 1/2 it is 1 - x.
        one, other = never_below(LINE), never_below(Broken((0, 1), (1 - X,), (1, 0)))
        halves = Share((0, 1), (HALF, HALF))
        for order, upper, number, factors, papers, share, wanted in (
                (HALF, HALF, HALF, (), (one, other), halves, True), ((2, 4), (3, 6), HALF, [], [one, other], halves, True),
                (HALF, HALF, HALF, (), (other, one), halves, False), (HALF, HALF, HALF, (), (one,), halves, False),
                (HALF, HALF, HALF, (), (one, other, one), halves, False), (HALF, 1, HALF, (), (one, other), halves, False),
                ((1, 3), HALF, HALF, (), (one, other), halves, False), (2, HALF, HALF, (), (one, other), halves, False),
                (HALF, HALF, HALF, (0,), (one, other), halves, False),
                (HALF, HALF, HALF, (), (one, other), Share((0,), (1,)), False),
                (HALF, HALF, HALF, (), (one, other), Share((0, 2), (HALF, HALF)), False),
                (HALF, HALF, HALF, (), (Paper(()), other), halves, False), (True, HALF, HALF, (), (one, other), halves, False)):
            for bits in (2, 60):
                told = NearOrder(order, upper, number, factors, papers, share)
                self.assertIs(is_near_order((), 0, 1, 1, 1, bits, told), wanted, vars(told))
        for bits in (3, 60):
            gap = Fraction(1, 2 ** bits)
            # The least mean cost of 0 and 1 with the parts 1/2 + d and 1/2 - d is 1/2 - d.
            for d, wanted in ((gap, True), (gap + gap * TINY, False)):
                share = Share((0, 1), (pair(Fraction(1, 2) + d), pair(Fraction(1, 2) - d)))
                told = NearOrder(HALF, HALF, HALF, (), (one, other), share)
                self.assertIs(is_near_order((), 0, 1, 1, 1, bits, told), wanted)

    def test_other_values(self):
        rows = (Told(LINE, (1, 4), HALF), Told(SQUARE, (1, 8), None))
        told = near_order(rows, 0, 1, 2, 3, 9)
        barred_rows = (Told(LINE, (3, 4), None), Told(LINE, None, HALF))
        barred = near_order(barred_rows, 0, 1, 2, 3, 9)
        self.assertIsInstance(barred, Barred)
        no_ratios = [value for value in ANY_VALUES if value.__class__ not in (int, tuple, list)]
        for some, right in ((rows, told), (barred_rows, barred)):
            self.assertIs(is_near_order(some, 0, 1, 2, 3, 9, right), True)
            self.assertIs(is_near_order(rows if right is barred else barred_rows, 0, 1, 2, 3, 9, right), False)
            for value in list(ANY_VALUES) + [rows, LINE, told.share, told.papers]:
                self.assertIs(is_near_order(some, 0, 1, 2, 3, 9, value), False)
            for name in vars(right):
                for value in no_ratios + [(), [], (1, 2, 3), ((1, 0), 1), rows, LINE, told, (None, None), (told, told)]:
                    made = right.__class__(*dict(vars(right), **{name: value}).values())
                    self.assertIs(is_near_order(some, 0, 1, 2, 3, 9, made), False, (name, value))


class ObjectsTest(unittest.TestCase):
    FIELDS = {Best: ["cost", "first", "last"], Orders: ["cost", "order", "number", "factors", "share"],
              NearOrder: ["order", "upper", "number", "factors", "papers", "share"]}

    def test_they_keep_what_they_are_given(self):
        inner = [1, 2]
        for kind, names in self.FIELDS.items():
            for value in ANY_VALUES + ((1, [2]), (2, 4), LINE):
                made = kind(*[value for _ in names])
                self.assertEqual(list(vars(made)), names)
                for name in names:
                    if isinstance(value, list):
                        self.assertIs(getattr(made, name).__class__, tuple)
                        self.assertEqual(getattr(made, name), tuple(value))
                    else:
                        self.assertIs(getattr(made, name), value)
            made = kind(*[[inner, 3] for _ in names])
            for name in names:
                self.assertIs(getattr(made, name)[0], inner)

    def test_each_equals_itself_alone(self):
        made = [kind(*[0 for _ in names]) for kind, names in self.FIELDS.items() for _ in range(2)]
        for k, one in enumerate(made):
            for n, other in enumerate(made):
                self.assertIs(one == other, k == n)


if __name__ == "__main__":
    unittest.main()
