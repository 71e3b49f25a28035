"""[9], [10] and [11]: broken functions, with the conventions of [2]."""

import random
import unittest
from fractions import Fraction

from helpers import NO_RATIOS, are_told, check_error, fraction, in_any_terms, pair, picture
from toldmeans.broken import (Broken, closed_step, constant, greater, joined, open_step, same, scaled, shifted, total)
from toldmeans.errors import BadNumber, BadRow, Unlike
from toldmeans.polys import Poly

X = Poly((0, 1))


def value_of(poly, place):
    found = Fraction(0)
    for number in reversed(poly.numbers):
        found = found * place + fraction(number)
    return found


def knots_of(f):
    return [fraction(knot) for knot in f.knots]


def value_at(f, place):
    """The value of a function at a Fraction, by [9] alone."""
    knots = knots_of(f)
    assert knots[0] <= place <= knots[-1]
    for knot, number in zip(knots, f.at):
        if knot == place:
            return fraction(number)
    for poly, low, high in zip(f.polys, knots, knots[1:]):
        if low < place < high:
            return value_of(poly, place)


def limits_at(f, place):
    """The limits of a function at a Fraction, by [9] alone."""
    knots = knots_of(f)
    if place not in knots:
        return (value_at(f, place), value_at(f, place))
    k = knots.index(place)
    left = None if k == 0 else value_of(f.polys[k - 1], place)
    right = None if k == len(knots) - 1 else value_of(f.polys[k], place)
    return (left, right)


def places_of(*functions):
    """All knots of some functions with one stretch, and many places between neighboring ones."""
    knots = sorted({knot for f in functions for knot in knots_of(f)})
    found = list(knots)
    for low, high in zip(knots, knots[1:]):
        found += [low + (high - low) * part for part in (Fraction(1, 97), Fraction(1, 3), Fraction(1, 2),
                                                         Fraction(9, 14), Fraction(998, 999))]
    return sorted(found)


def some_knots(source, many, low=-9, high=9, bottoms=(1, 2, 3, 7)):
    while True:
        inner = {Fraction(source.randint(low * 7, high * 7), source.choice(bottoms) * 7) for _ in range(many - 2)}
        knots = sorted(inner | {Fraction(low), Fraction(high)})
        if len(knots) == many:
            return knots


def some_poly(source, most, size=5):
    return Poly([(source.randint(-size, size), source.randint(1, 3)) for _ in range(source.randint(0, most + 1))])


def some_broken(source, many=None, most=8, low=-9, high=9):
    """A function with jumps and numbers of its own, but also with pieces that go on, and without jumps."""
    knots = some_knots(source, many or source.randint(2, 12), low, high)
    polys = []
    for _ in knots[1:]:
        polys.append(polys[-1] if polys and source.random() < 0.4 else some_poly(source, most))
    at = []
    for k, knot in enumerate(knots):
        limits = [value_of(poly, knot) for poly in polys[max(0, k - 1):k + 1]]
        at.append(source.choice((min(limits), max(limits), max(limits), limits[0] + source.randint(-2, 2))))
    return Broken([in_any_terms(source, knot) for knot in knots], polys, [in_any_terms(source, n) for n in at])


def some_functions(seed, many, most=8):
    source = random.Random(seed)
    return [some_broken(source, None, most) for _ in range(many)]


class Case(unittest.TestCase):
    def check_form(self, f):
        self.assertIs(f.__class__, Broken)
        self.assertTrue(are_told(f.knots))
        self.assertTrue(are_told(f.at))
        self.assertIs(f.polys.__class__, tuple)
        self.assertEqual(sorted(knots_of(f)), knots_of(f))

    def check_values(self, f, wanted, places):
        """That a function has the wanted values, wanted being a function of Fractions."""
        self.check_form(f)
        for place in places:
            self.assertEqual(value_at(f, place), wanted(place), place)
            self.assertEqual(fraction(f.value(pair(place))), wanted(place), place)

    def check_joined(self, f):
        """That no inner knot of a function can be left out."""
        for k in range(1, len(f.knots) - 1):
            goes_on = f.polys[k - 1] == f.polys[k] and f.polys[k].at(f.knots[k]) == f.at[k]
            self.assertFalse(goes_on, k)


class CreationTest(Case):
    def test_attributes(self):
        f = Broken([0, [2, 4], (6, 3)], [Poly([1]), Poly((0, 1))], ((4, 8), 1, [-2, 6]))
        self.assertEqual(f.knots, ((0, 1), (1, 2), (2, 1)))
        self.assertEqual(f.polys, (Poly((1,)), X))
        self.assertEqual(f.at, ((1, 2), (1, 1), (-1, 3)))
        self.assertEqual(list(vars(f)), ["knots", "polys", "at"])
        self.check_form(f)
        self.assertEqual(Broken((0, 1), [X], (0, 0)).polys.__class__, tuple)

    def test_lists_that_change_later_change_nothing(self):
        knots, polys, at = [[0, 1], 1], [X], [[1, 2], 3]
        f = Broken(knots, polys, at)
        self.assertEqual((knots, at), ([[0, 1], 1], [[1, 2], 3]))
        knots[0][0] = -5
        knots.append(7)
        polys.append(X)
        at[0] = 9
        self.assertEqual((f.knots, f.polys, f.at), (((0, 1), (1, 1)), (X,), ((1, 2), (3, 1))))

    def test_what_are_no_knots(self):
        for knots in (None, True, 3, "", "01", 0.5, {}, {0: 1, 1: 2}, (), [], [0], (5,), [0, 0], [1, 0], [0, 2, 1],
                      [0, 1, 1], [(1, 2), (2, 4)], [0, 1, (3, 3)], [0, None], [[0], 1], range(2), object(), X):
            check_error(self, BadRow, {"row": knots}, Broken, knots, [X], [1, 2])
            check_error(self, BadRow, {"row": knots}, Broken, knots, None, None)
        for value in NO_RATIOS:
            for knots in ([value, 5], (0, value), [0, value, 9]):
                check_error(self, BadRow, {"row": knots}, Broken, knots, [X], [1, 2])

    def test_what_are_no_polys(self):
        for polys in (None, True, 3, "", "x", {}, {X.degree(): X}, (), [], [X], [X, X, X], (X, None), [X, 1], [X, (1, 2)],
                      [X, ((1, 1),)], [Poly, X], X, object(), [X, Broken((0, 1), [X], (0, 1))], range(2)):
            check_error(self, BadRow, {"row": polys}, Broken, [0, 1, 2], polys, [1, 2, 3])
            check_error(self, BadRow, {"row": polys}, Broken, [0, 1, 2], polys, None)

    def test_what_is_no_row_of_numbers_at_knots(self):
        for at in (None, True, 3, "", "012", 0.5, {}, (), [], [1], [1, 2], [1, 2, 3, 4], (1, 2, None), range(3), object()):
            check_error(self, BadRow, {"row": at}, Broken, [0, 1, 2], (X, X), at)
        for value in NO_RATIOS:
            for at in ([value, 1, 2], (1, value, 2), [1, 2, value]):
                check_error(self, BadRow, {"row": at}, Broken, [0, 1, 2], (X, X), at)

    def test_numbers_at_knots_need_no_order(self):
        self.assertEqual(Broken((0, 1), (X,), (5, 5)).at, ((5, 1), (5, 1)))
        self.assertEqual(Broken((0, 1), (X,), (5, -5)).at, ((5, 1), (-5, 1)))


class EqualityTest(Case):
    def test_equal_rows(self):
        one = Broken((0, 1, 2), (X, X), (0, 1, 2))
        self.assertTrue(one == Broken([0, [2, 2], (4, 2)], [Poly([0, 1]), X], [0, (5, 5), 2]))
        self.assertFalse(one != Broken((0, 1, 2), (X, X), (0, 1, 2)))
        self.assertTrue(one == one)
        for other in (Broken((0, 2), (X,), (0, 2)), Broken((0, 1, 3), (X, X), (0, 1, 2)),
                      Broken((0, 1, 2), (X, X + 1), (0, 1, 2)), Broken((0, 1, 2), (X, X), (0, 1, 3))):
            self.assertIs(one == other, False)
            self.assertIs(one != other, True)

    def test_never_equal_to_another_class(self):
        class Like:
            knots = ((0, 1), (1, 1))
            polys = (X,)
            at = ((0, 1), (1, 1))

        f = Broken((0, 1), (X,), (0, 1))
        for other in (None, 0, (f.knots, f.polys, f.at), X, Like(), "0 : x : 1", Broken, True):
            self.assertIs(f == other, False)
            self.assertIs(other == f, False)
            self.assertIs(f != other, True)


class ValueTest(Case):
    def test_values_and_limits(self):
        source = random.Random(1)
        for f in some_functions(1, 40):
            for place in places_of(f):
                x = in_any_terms(source, place)
                self.assertEqual(f.value(x), pair(value_at(f, place)))
                left, right = limits_at(f, place)
                told = f.limits(x)
                self.assertIs(told.__class__, tuple)
                self.assertEqual(told, (None if left is None else pair(left), None if right is None else pair(right)))

    def test_known_values(self):
        f = Broken((0, 1, 2), (X, X * X + 1), (7, (3, 2), -1))
        self.assertEqual([f.value(x) for x in (0, (1, 2), 1, [3, 2], 2)], [(7, 1), (1, 2), (3, 2), (13, 4), (-1, 1)])
        self.assertEqual(f.limits(0), (None, (0, 1)))
        self.assertEqual(f.limits([2, 2]), ((1, 1), (2, 1)))
        self.assertEqual(f.limits((4, 2)), ((5, 1), None))
        self.assertEqual(f.limits((3, 2)), ((13, 4), (13, 4)))

    def test_errors(self):
        f = Broken((0, 1, 2), (X, X), (0, 1, 2))
        for x in NO_RATIOS + (-1, 3, (-1, 10 ** 40), [2 * 10 ** 40 + 1, 10 ** 40]):
            check_error(self, BadNumber, {"what": "x", "number": x}, f.value, x)
            check_error(self, BadNumber, {"what": "x", "number": x}, f.limits, x)


class KindTest(Case):
    def test_kinds(self):
        for f in some_functions(2, 60) + some_functions(3, 60, 1):
            pairs = [(fraction(number), limit) for knot, number in zip(knots_of(f), f.at)
                     for limit in limits_at(f, knot) if limit is not None]
            self.assertIs(f.is_upper(), all(number >= limit for number, limit in pairs))
            self.assertIs(f.is_lower(), all(number <= limit for number, limit in pairs))
            self.assertIs(f.is_plain(), all(number == limit for number, limit in pairs))
            self.assertIs(f.is_line(), all(len(poly.numbers) <= 2 for poly in f.polys))

    def kinds(self, f):
        return (f.is_plain(), f.is_upper(), f.is_lower())

    def test_known_kinds(self):
        self.assertEqual(self.kinds(Broken((0, 1, 2), (X, 2 - X), (0, 1, 0))), (True, True, True))
        self.assertEqual(self.kinds(Broken((0, 1, 2), (X, X + 1), (0, 2, 3))), (False, True, False))
        self.assertEqual(self.kinds(Broken((0, 1, 2), (X, X + 1), (0, 1, 3))), (False, False, True))
        self.assertEqual(self.kinds(Broken((0, 1, 2), (X, X + 1), (0, (3, 2), 3))), (False, False, False))
        self.assertEqual(self.kinds(Broken((0, 1, 2), (X, X), (0, 2, 3))), (False, True, False))
        self.assertEqual(self.kinds(Broken((0, 1, 2), (X, X), (-1, 0, 2))), (False, False, True))
        self.assertEqual(self.kinds(Broken((0, 1), (X,), (-1, 2))), (False, False, False))
        self.assertEqual(self.kinds(Broken((0, 1), (X,), (0, 2))), (False, True, False))
        self.assertEqual(self.kinds(Broken((0, 1), (X,), (0, (1, 2)))), (False, False, True))
        self.assertEqual(self.kinds(Broken((0, 1, 2), (X, X + 1), (9, 1, 3))), (False, False, False))

    def test_lines(self):
        for poly, wanted in ((Poly(()), True), (Poly((3,)), True), (X, True), (X * X, False)):
            self.assertIs(Broken((0, 1, 2), (X, poly), (0, 1, 2)).is_line(), wanted)
            self.assertIs(Broken((0, 1, 2), (poly, X), (0, 1, 2)).is_line(), wanted)


class StepsTest(Case):
    def test_constant(self):
        for number in (0, 5, (-1, 2), [4, 6]):
            f = constant((-1, 2), [6, 4], number)
            self.assertEqual(f, Broken(((-1, 2), (3, 2)), (Poly((number,)),), (number, number)))
            self.check_values(f, lambda place: fraction(number), places_of(f))

    def check_step(self, f, within, low, high, knots):
        self.assertEqual(knots_of(f), sorted({Fraction(n) for n in knots}))
        self.check_values(f, lambda place: Fraction(int(within(place))), places_of(f))
        for poly in f.polys:
            self.assertIn(poly, (Poly(()), Poly((1,))))

    def test_closed_steps(self):
        ends = [Fraction(n, 2) for n in range(-2, 5)]
        for one in ends:
            for other in ends:
                if one <= other:
                    f = closed_step(-1, [4, 2], pair(one), list(pair(other)))
                    self.check_step(f, lambda place: one <= place <= other, -1, 2, (-1, 2, one, other))
                    self.assertTrue(f.is_upper())

    def test_open_steps(self):
        ends = [Fraction(n, 2) for n in range(-2, 5)]
        for one in ends:
            for other in ends:
                if one < other:
                    f = open_step((-2, 2), 2, list(pair(one)), pair(other))
                    self.check_step(f, lambda place: one < place < other, -1, 2, (-1, 2, one, other))
                    self.assertTrue(f.is_lower())

    def test_open_steps_from_an_end_on(self):
        for k in range(-1, 5):
            place = Fraction(k, 2)
            if place > -1:
                f = open_step(-1, 2, None, pair(place))
                self.check_step(f, lambda x: x < place, -1, 2, (-1, 2, place))
                self.assertTrue(f.is_lower())
            if place < 2:
                f = open_step(-1, 2, pair(place), None)
                self.check_step(f, lambda x: x > place, -1, 2, (-1, 2, place))
                self.assertTrue(f.is_lower())
        self.check_step(open_step(-1, 2, None, None), lambda x: True, -1, 2, (-1, 2))
        self.check_step(open_step(-1, 2, None, 2), lambda x: x < 2, -1, 2, (-1, 2))
        self.check_step(open_step(-1, 2, -1, None), lambda x: x > -1, -1, 2, (-1, 2))

    def test_known_steps(self):
        none, one = Poly(()), Poly((1,))
        self.assertEqual(closed_step(0, 3, 1, 2), Broken((0, 1, 2, 3), (none, one, none), (0, 1, 1, 0)))
        self.assertEqual(closed_step(0, 3, 1, 1), Broken((0, 1, 3), (none, none), (0, 1, 0)))
        self.assertEqual(closed_step(0, 3, 0, 0), Broken((0, 3), (none,), (1, 0)))
        self.assertEqual(closed_step(0, 3, 3, 3), Broken((0, 3), (none,), (0, 1)))
        self.assertEqual(closed_step(0, 3, 0, 3), Broken((0, 3), (one,), (1, 1)))
        self.assertEqual(open_step(0, 3, 1, 2), Broken((0, 1, 2, 3), (none, one, none), (0, 0, 0, 0)))
        self.assertEqual(open_step(0, 3, 0, 3), Broken((0, 3), (one,), (0, 0)))
        self.assertEqual(open_step(0, 3, None, 3), Broken((0, 3), (one,), (1, 0)))
        self.assertEqual(open_step(0, 3, 2, None), Broken((0, 2, 3), (none, one), (0, 0, 1)))
        self.assertEqual(open_step(0, 3, None, None), constant(0, 3, 1))


class TotalTest(Case):
    def test_totals(self):
        functions = some_functions(4, 12)
        before = picture(functions)
        for one in functions:
            for other in functions:
                f = total(one, other)
                self.assertEqual(knots_of(f), sorted(set(knots_of(one) + knots_of(other))))
                self.check_values(f, lambda x: value_at(one, x) + value_at(other, x), places_of(one, other))
        self.assertEqual(picture(functions), before)

    def test_scaled(self):
        for f in some_functions(5, 20):
            for by in (0, 1, -1, (-2, 3), [4, 6], (0, 5)):
                g = scaled(f, by)
                self.assertEqual(g.knots, f.knots)
                self.check_values(g, lambda x: fraction(by) * value_at(f, x), places_of(f))
        self.assertEqual(scaled(Broken((0, 1), (X,), (0, 1)), 0), constant(0, 1, 0))

    def test_errors(self):
        f = Broken((0, 1), (X,), (0, 1))
        for by in NO_RATIOS:
            check_error(self, BadNumber, {"what": "by", "number": by}, scaled, f, by)


def with_stretches():
    """Pairs of functions with unlike stretches."""
    f = Broken((0, 1, 2), (X, X), (0, 1, 2))
    for low, high in ((0, 1), (1, 2), ((-1, 10 ** 40), 2), (0, (2 * 10 ** 40 + 1, 10 ** 40)), (-3, 5), (3, 5)):
        yield f, constant(low, high, 1)
        yield constant(low, high, 1), f


class StretchTest(Case):
    def test_unlike_stretches(self):
        for one, other in with_stretches():
            for call in (total, same, greater):
                check_error(self, Unlike, {"what": "stretch"}, call, one, other)

    def test_unlike_stretches_ahead_of_degrees(self):
        square = Broken((0, 1), (X * X,), (0, 1))
        for one, other in ((square, constant(0, 2, 1)), (constant(-1, 1, 1), square)):
            check_error(self, Unlike, {"what": "stretch"}, greater, one, other)


class JoinedTest(Case):
    def test_joined(self):
        left_out = 0
        for f in some_functions(6, 80):
            before = picture(f)
            g = joined(f)
            self.check_joined(g)
            self.assertLessEqual(set(g.knots), set(f.knots))
            self.check_values(g, lambda x: value_at(f, x), places_of(f))
            self.assertEqual(joined(g), g)
            self.assertEqual(picture(f), before)
            left_out += len(f.knots) - len(g.knots)
        self.assertGreater(left_out, 40)

    def test_known_ones(self):
        f = Broken((0, 1, 2, 3), (X, X, X), (5, 1, 2, 7))
        self.assertEqual(joined(f), Broken((0, 3), (X,), (5, 7)))
        self.assertEqual(joined(Broken((0, 1, 2, 3), (X, X, X), (0, 0, 2, 3))), Broken((0, 1, 3), (X, X), (0, 0, 3)))
        self.assertEqual(joined(Broken((0, 1, 2), (X, X * X), (0, 1, 4))), Broken((0, 1, 2), (X, X * X), (0, 1, 4)))
        self.assertEqual(joined(Broken((0, 1, 2, 3), (X, X, 4 - X), (0, 1, 2, 1))),
                         Broken((0, 2, 3), (X, 4 - X), (0, 2, 1)))

    def test_same(self):
        source = random.Random(7)
        for f in some_functions(7, 30):
            knots = sorted(set(knots_of(f) + [Fraction(source.randint(-60, 60), 7) for _ in range(4)]))
            polys = [f.polys[max(k for k, knot in enumerate(knots_of(f)[:-1]) if knot <= low)] for low in knots[:-1]]
            g = Broken([pair(knot) for knot in knots], polys, [pair(value_at(f, knot)) for knot in knots])
            self.assertIs(same(f, g), True)
            self.assertIs(same(g, f), True)
            self.assertIs(same(f, joined(g)), True)
            self.assertEqual(joined(f), joined(g))
            k = source.randrange(len(knots))
            at = list(g.at)
            at[k] = pair(fraction(at[k]) + Fraction(1, 10 ** 30))
            self.assertIs(same(f, Broken(g.knots, g.polys, at)), False)
            k = source.randrange(len(polys))
            polys[k] = polys[k] + (1, 10 ** 30) * X * X
            self.assertIs(same(f, Broken(g.knots, polys, g.at)), False)
        self.assertIs(same(constant(0, 1, 0), scaled(closed_step(0, 1, (1, 2), (1, 2)), 0)), True)
        self.assertIs(same(closed_step(0, 1, (1, 2), (1, 2)), constant(0, 1, 0)), False)


class GreaterTest(Case):
    def test_greater(self):
        functions = some_functions(8, 14, 1)
        before = picture(functions)
        crossed = 0
        for one in functions:
            for other in functions:
                f = greater(one, other)
                self.check_joined(f)
                self.check_values(f, lambda x: max(value_at(one, x), value_at(other, x)), places_of(one, other, f))
                for poly, low, high in zip(f.polys, knots_of(f), knots_of(f)[1:]):
                    self.assertLessEqual(poly.degree(), 1)
                crossed += len(set(f.knots) - set(one.knots) - set(other.knots))
                self.assertEqual(f, greater(other, one))
        self.assertGreater(crossed, 50)
        self.assertEqual(picture(functions), before)

    def test_known_ones(self):
        up, down = Broken((0, 2), (X,), (0, 2)), Broken((0, 2), (2 - X,), (2, 0))
        self.assertEqual(greater(up, down), Broken((0, 1, 2), (2 - X, X), (2, 1, 2)))
        self.assertEqual(greater(up, constant(0, 2, 0)), up)
        self.assertEqual(greater(up, constant(0, 2, 2)), constant(0, 2, 2))
        self.assertEqual(greater(up, up), up)
        self.assertEqual(greater(up, closed_step(0, 2, 1, 1)), up)
        self.assertEqual(greater(up, scaled(closed_step(0, 2, 1, 1), 3)), Broken((0, 1, 2), (X, X), (0, 3, 2)))
        self.assertEqual(greater(up, Broken((0, 2), (X,), (-1, 5))), Broken((0, 2), (X,), (0, 5)))
        third = Broken((0, 1, 2), (Poly((1,)), 3 * X - 3), (1, 0, 3))
        self.assertEqual(greater(up, third),
                         Broken((0, 1, (3, 2), 2), (Poly((1,)), X, 3 * X - 3), (1, 1, (3, 2), 3)))

    def test_degrees(self):
        line = Broken((0, 1, 2), (X, X), (0, 1, 2))
        bent = [Broken((0, 1, 2), polys, (0, 1, 2)) for polys in
                ((X, X * X), (X * X, X), (X * X * X, X * X), (X * X, X * X * X * X))]
        degrees = (2, 2, 3, 2)
        for f, degree in zip(bent, degrees):
            check_error(self, BadNumber, {"what": "degree", "number": degree}, greater, f, line)
            check_error(self, BadNumber, {"what": "degree", "number": degree}, greater, line, f)
            for other in bent:
                check_error(self, BadNumber, {"what": "degree", "number": degree}, greater, f, other)


class ShiftedTest(Case):
    def test_shifted(self):
        source = random.Random(9)
        for f in some_functions(9, 30):
            before = picture(f)
            for _ in range(4):
                start, step = [Fraction(source.randint(-9, 9), source.randint(1, 4)) for _ in range(2)]
                step = step or Fraction(-5, 3)
                g = shifted(f, in_any_terms(source, start), in_any_terms(source, step))
                self.assertEqual(knots_of(g), sorted([(knot - start) / step for knot in knots_of(f)]))
                self.check_values(g, lambda t: value_at(f, start + step * t), places_of(g))
            self.assertEqual(picture(f), before)

    def test_known_ones(self):
        f = Broken((0, 1, 3), (X, X * X), (5, 6, 7))
        self.assertEqual(shifted(f, 0, 1), f)
        self.assertEqual(shifted(f, 1, 1), Broken((-1, 0, 2), (X + 1, X * X + 2 * X + 1), (5, 6, 7)))
        self.assertEqual(shifted(f, 0, -1), Broken((-3, -1, 0), (X * X, -X), (7, 6, 5)))
        self.assertEqual(shifted(f, [1, 1], (2, 1)).knots, ((-1, 2), (0, 1), (1, 1)))

    def test_errors(self):
        f = Broken((0, 1), (X,), (0, 1))
        for value in NO_RATIOS:
            check_error(self, BadNumber, {"what": "start", "number": value}, shifted, f, value, 1)
            check_error(self, BadNumber, {"what": "step", "number": value}, shifted, f, 1, value)
            check_error(self, BadNumber, {"what": "start", "number": value}, shifted, f, value, 0)
            check_error(self, BadNumber, {"what": "start", "number": "wrong"}, shifted, f, "wrong", value)
        for value in (0, (0, 1), [0, 7]):
            check_error(self, BadNumber, {"what": "step", "number": value}, shifted, f, 1, value)


class SizesTest(Case):
    def test_twelve_knots_and_long_numbers(self):
        source = random.Random(10)
        most = 10 ** 80 - 1

        def ratio(size=most):
            return (source.randint(-size, size), source.randint(most // 2, most))
        rows = []
        for _ in range(2):
            knots = sorted([fraction(ratio(400 * most)) for _ in range(10)])
            polys = [Poly([ratio() for _ in range(9)]) for _ in range(11)]
            rows.append(Broken([-1000, *[pair(knot) for knot in knots], 1000], polys, [ratio() for _ in range(12)]))
        one, other = rows
        places = [Fraction(source.randint(-999, 999), source.randint(1, 9)) for _ in range(12)] + knots_of(one)
        self.check_values(total(one, other), lambda x: value_at(one, x) + value_at(other, x), places)
        self.check_values(scaled(one, rows[0].at[0]), lambda x: value_at(one, x) * fraction(one.at[0]), places)
        self.assertIs(same(total(one, other), total(other, one)), True)
        self.assertEqual(joined(total(one, scaled(one, -1))), constant(-1000, 1000, 0))


if __name__ == "__main__":
    unittest.main()
