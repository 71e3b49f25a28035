"""[5] and [6]: polynomials, with the conventions of [2]."""

import copy
import random
import unittest
from fractions import Fraction

from helpers import NO_RATIOS, RATIOS, check_error, fraction, pair
from toldmeans.errors import BadNumber, BadRow
from toldmeans.polys import Poly, common, divided

NO_SIGN_RATIOS = (True, None, "1", 0.5, (), (1,), (1, 0), (1, -2), (1, 2, 3), (True, 2), [1, 2], [], ((1, 2), 3))


def fractions_of(poly):
    return [fraction(number) for number in poly.numbers]


def value_of(numbers, place):
    total = Fraction(0)
    for number in reversed(numbers):
        total = total * place + number
    return total


def sum_of(one, other):
    many = max(len(one), len(other))
    return [a + b for a, b in zip(one + [0] * (many - len(one)), other + [0] * (many - len(other)))]


def product_of(one, other):
    found = [Fraction(0)] * (len(one) + len(other))
    for k, a in enumerate(one):
        for n, b in enumerate(other):
            found[k + n] += a * b
    return found


def poly_of(numbers):
    return Poly([pair(number) for number in numbers])


def some_poly(source, degree, size=9):
    """A Poly of just this degree, its numbers in any terms."""
    row = [source.choice((tuple, list))((source.randint(-size, size), source.randint(1, size)))
           for _ in range(degree)]
    if degree < 0:
        return Poly(row)
    return Poly(row + [source.choice((1, -1)) * source.randint(1, size)])


def some_polys(seed, many, most=12):
    source = random.Random(seed)
    return [some_poly(source, source.randint(-1, most), source.choice((2, 9, 10 ** 12))) for _ in range(many)]


class CreationTest(unittest.TestCase):
    def test_numbers_are_told_up_to_the_degree(self):
        self.assertEqual(Poly((1, (2, 4), [-3, 6], [5, 5])).numbers, ((1, 1), (1, 2), (-1, 2), (1, 1)))
        self.assertEqual(Poly([0, 1, 0, (0, 3), [0, 7]]).numbers, ((0, 1), (1, 1)))
        self.assertEqual(Poly([0, 0, 3]).numbers, ((0, 1), (0, 1), (3, 1)))
        for numbers in ((), [], (0,), [0, 0], ((0, 5), [0, 1])):
            self.assertEqual(Poly(numbers).numbers, ())
        self.assertEqual(Poly((1, 2)).numbers, ((1, 1), (2, 1)))
        self.assertEqual(Poly(((1, 2),)).numbers, ((1, 2),))
        self.assertEqual(Poly(RATIOS).numbers, tuple([pair(fraction(value)) for value in RATIOS]))

    def test_numbers_are_tuples(self):
        poly = Poly([[1, 2], 3])
        self.assertIs(poly.numbers.__class__, tuple)
        self.assertEqual([number.__class__ for number in poly.numbers], [tuple, tuple])

    def test_a_row_that_changes_later_changes_nothing(self):
        row = [[1, 2], 3]
        poly = Poly(row)
        self.assertEqual(row, [[1, 2], 3])
        row[0][0] = 9
        row.append(4)
        self.assertEqual(poly.numbers, ((1, 2), (3, 1)))

    def test_what_is_no_row(self):
        for value in (None, True, 0, 5, "", "12", b"12", 0.5, {}, {1: 2}, range(3), Poly((1,)), iter([1]), object):
            with self.assertRaises(BadRow) as held:
                Poly(value)
            self.assertIs(held.exception.row, value)

    def test_rows_with_what_is_no_ratio(self):
        for value in NO_RATIOS:
            for row in ([value], (value,), (1, value), [value, 0], [0, value, 2], (1, 2, value)):
                check_error(self, BadRow, {"row": row}, Poly, row)
                with self.assertRaises(BadRow) as held:
                    Poly(row)
                self.assertIs(held.exception.row, row)

    def test_degree(self):
        self.assertEqual([Poly(n).degree() for n in ((), (0, 0), (5,), (0, 1), (1, 2, 0), [0] * 12 + [(-1, 3)])],
                         [-1, -1, 0, 1, 1, 12])


class EqualityTest(unittest.TestCase):
    def test_equal_numbers(self):
        self.assertTrue(Poly((1, (2, 4), 0)) == Poly([[3, 3], [1, 2]]))
        self.assertTrue(Poly(()) == Poly((0, 0)))
        self.assertFalse(Poly((1, 2)) == Poly((1, 3)))
        self.assertFalse(Poly((1, 2)) == Poly((1, 2, 3)))
        self.assertFalse(Poly((1, 2)) != Poly((1, 2)))
        self.assertTrue(Poly((1, 2)) != Poly((2, 1)))
        poly = Poly((1,))
        self.assertTrue(poly == poly)

    def test_never_equal_to_another_class(self):
        class Like:
            numbers = ((1, 1),)

        for other in (1, (1, 1), ((1, 1),), [1], None, "1", Like(), True, Poly):
            self.assertIs(Poly((1,)) == other, False)
            self.assertIs(other == Poly((1,)), False)
            self.assertIs(Poly((1,)) != other, True)


class SignsTest(unittest.TestCase):
    def check_two(self, one, other):
        a, b = fractions_of(one), fractions_of(other)
        self.assertEqual(one + other, poly_of(sum_of(a, b)))
        self.assertEqual(one - other, poly_of(sum_of(a, [-n for n in b])))
        self.assertEqual(one * other, poly_of(product_of(a, b)))
        self.assertEqual((-one).numbers, tuple([pair(-n) for n in a]))

    def test_all_pairs(self):
        polys = some_polys(1, 25) + [Poly(()), Poly((1,)), Poly((0, 1))]
        before = [poly.numbers for poly in polys]
        for one in polys:
            for other in polys:
                self.check_two(one, other)
        self.assertEqual([poly.numbers for poly in polys], before)

    def test_results_lose_zeros_at_the_end(self):
        self.assertEqual((Poly((1, 2, 3)) - Poly((0, 0, 3))).numbers, ((1, 1), (2, 1)))
        self.assertEqual((Poly((1, 2)) - Poly((1, 2))).numbers, ())
        self.assertEqual((Poly((1, 2)) * 0).numbers, ())
        self.assertEqual((Poly((1, 2)) * Poly(())).degree(), -1)

    def test_ratios_on_either_side(self):
        for poly in some_polys(2, 12) + [Poly(())]:
            for ratio in (0, 3, -7, (1, 2), (-6, 4), (0, 5), 10 ** 60, (7, 10 ** 50)):
                number = Poly((ratio,))
                self.assertEqual(poly + ratio, poly + number)
                self.assertEqual(ratio + poly, poly + number)
                self.assertEqual(poly - ratio, poly - number)
                self.assertEqual(ratio - poly, number - poly)
                self.assertEqual(poly * ratio, poly * number)
                self.assertEqual(ratio * poly, poly * number)
                for found in (poly + ratio, ratio - poly, ratio * poly, ratio + poly, poly - ratio, poly * ratio):
                    self.assertIs(found.__class__, Poly)

    def test_a_pair_is_one_ratio_and_no_row(self):
        self.assertEqual(((1, 2) + Poly((1, 1))).numbers, ((3, 2), (1, 1)))
        self.assertEqual(((1, 2) * Poly((1, 1))).numbers, ((1, 2), (1, 2)))
        self.assertEqual(((1, 2) - Poly((1, 1))).numbers, ((-1, 2), (-1, 1)))

    def test_other_values_beside_a_sign(self):
        poly = Poly((1, 2))
        for value in NO_SIGN_RATIOS:
            for call in (lambda: poly + value, lambda: value + poly, lambda: poly - value, lambda: value - poly,
                         lambda: poly * value, lambda: value * poly):
                with self.assertRaises(TypeError):
                    call()

    def test_products_to_degree_40(self):
        source = random.Random(3)
        for degrees in ((20, 20), (40, 0), (28, 12), (1, 39)):
            one, other = [some_poly(source, degree, 10 ** 40) for degree in degrees]
            self.check_two(one, other)
            self.assertEqual((one * other).degree(), 40)

    def test_short_forms_make_new_objects(self):
        poly = same = Poly((1, 2))
        poly += 1
        poly *= (1, 2)
        poly -= Poly((0, 5))
        self.assertEqual(poly.numbers, ((1, 1), (-4, 1)))
        self.assertEqual(same.numbers, ((1, 1), (2, 1)))


class ValueTest(unittest.TestCase):
    def test_values(self):
        for poly in some_polys(4, 30):
            for place in RATIOS:
                found = poly.at(place)
                self.assertIs(found.__class__, tuple)
                self.assertEqual(found, pair(value_of(fractions_of(poly), fraction(place))))

    def test_edges(self):
        self.assertEqual(Poly(()).at((5, 3)), (0, 1))
        self.assertEqual(Poly((7,)).at(0), (7, 1))
        self.assertEqual(Poly((0, 1)).at([6, 4]), (3, 2))
        self.assertEqual(Poly((1, 1, 1)).at(-1), (1, 1))
        self.assertEqual(Poly(((1, 2), (1, 3))).at((-3, 2)), (0, 1))

    def test_errors(self):
        for value in NO_RATIOS:
            for poly in (Poly((1, 2)), Poly(()), Poly((3,))):
                check_error(self, BadNumber, {"what": "place", "number": value}, poly.at, value)


class SlopeTest(unittest.TestCase):
    def test_slopes(self):
        for poly in some_polys(5, 40):
            numbers = fractions_of(poly)
            self.assertEqual(poly.slope(), poly_of([k * numbers[k] for k in range(1, len(numbers))]))
        self.assertEqual(Poly(()).slope().numbers, ())
        self.assertEqual(Poly((5,)).slope().numbers, ())
        self.assertEqual(Poly((1, (1, 2), (1, 2))).slope().numbers, ((1, 2), (1, 1)))

    def test_areas(self):
        for poly in some_polys(6, 40):
            numbers = fractions_of(poly)
            self.assertEqual(poly.area(), poly_of([0] + [n / (k + 1) for k, n in enumerate(numbers)]))
            self.assertEqual(poly.area().slope(), poly)
            self.assertEqual(poly.area().at(0), (0, 1))
        self.assertEqual(Poly(()).area().numbers, ())
        self.assertEqual(Poly((0, 1)).area().numbers, ((0, 1), (0, 1), (1, 2)))


class MovedTest(unittest.TestCase):
    def test_moved(self):
        source = random.Random(7)
        for poly in some_polys(8, 40):
            start, step = [source.choice((0, 1, -3, (1, 2), [-4, 6], (0, 3), (10 ** 20, 7))) for _ in range(2)]
            found = poly.moved(start, step)
            for place in (0, 1, -2, (3, 5), (7, 2)):
                there = fraction(start) + fraction(step) * fraction(place)
                self.assertEqual(found.at(place), pair(value_of(fractions_of(poly), there)))
            self.assertLessEqual(found.degree(), poly.degree())

    def test_edges(self):
        poly = Poly((1, 2, 3))
        self.assertEqual(poly.moved(0, 1), poly)
        self.assertEqual(poly.moved(1, 0).numbers, ((6, 1),))
        self.assertEqual(poly.moved([1, 2], [2, 1]).numbers, ((11, 4), (10, 1), (12, 1)))
        self.assertEqual(Poly((-2, 1)).moved(2, 0).numbers, ())
        self.assertEqual(Poly(()).moved(3, (1, 2)).numbers, ())
        self.assertEqual(poly.moved(0, -1).numbers, ((1, 1), (-2, 1), (3, 1)))

    def test_errors_in_their_order(self):
        for poly in (Poly((1, 2, 3)), Poly(())):
            for value in NO_RATIOS:
                check_error(self, BadNumber, {"what": "start", "number": value}, poly.moved, value, 1)
                check_error(self, BadNumber, {"what": "step", "number": value}, poly.moved, [0, 2], value)
                check_error(self, BadNumber, {"what": "start", "number": value}, poly.moved, value, "wrong")
                check_error(self, BadNumber, {"what": "start", "number": "wrong"}, poly.moved, "wrong", value)


class DividedTest(unittest.TestCase):
    def check_division(self, one, other):
        found = divided(one, other)
        self.assertIs(found.__class__, tuple)
        quotient, rest = found
        self.assertEqual(quotient * other + rest, one)
        self.assertLess(rest.degree(), other.degree())
        return quotient, rest

    def test_all_pairs(self):
        polys = some_polys(9, 25) + [Poly(()), Poly((4,)), Poly((0, (-1, 3)))]
        before = [poly.numbers for poly in polys]
        for one in polys:
            for other in polys:
                if other.degree() >= 0:
                    self.check_division(one, other)
        self.assertEqual([poly.numbers for poly in polys], before)

    def test_without_a_rest(self):
        polys = [poly for poly in some_polys(10, 15) if poly.degree() >= 0]
        for one in polys:
            for other in polys:
                self.assertEqual(divided(one * other, other), (one, Poly(())))

    def test_known_ones(self):
        self.assertEqual(divided(Poly((-1, 0, 1)), Poly((-1, 1))), (Poly((1, 1)), Poly(())))
        self.assertEqual(divided(Poly((1, 2)), Poly((0, 0, 1))), (Poly(()), Poly((1, 2))))
        self.assertEqual(divided(Poly((1, 2)), Poly((-3,))), (Poly(((-1, 3), (-2, 3))), Poly(())))
        self.assertEqual(divided(Poly(()), Poly((1, 2))), (Poly(()), Poly(())))
        self.assertEqual(divided(Poly((1, 0, 1)), Poly((0, -2))), (Poly((0, (-1, 2))), Poly((1,))))

    def test_to_degree_40(self):
        source = random.Random(11)
        for degrees in ((40, 12), (40, 40), (40, 0), (12, 40), (40, 39)):
            one, other = [some_poly(source, degree) for degree in degrees]
            self.check_division(one, other)
        one, other = some_poly(source, 28, 10 ** 10), some_poly(source, 12, 10 ** 10)
        self.assertEqual(self.check_division(one * other, other), (one, Poly(())))

    def test_a_divisor_of_0(self):
        for one in (Poly(()), Poly((1, 2))):
            for other in (Poly(()), Poly((0, 0))):
                check_error(self, BadNumber, {"what": "divisor", "number": 0}, divided, one, other)


class CommonTest(unittest.TestCase):
    def check_common(self, one, other):
        found = common(one, other)
        self.assertEqual(found, common(other, one))
        if one.degree() < 0 and other.degree() < 0:
            self.assertEqual(found, Poly(()))
            return found
        self.assertEqual(found.numbers[-1], (1, 1))
        for poly in (one, other):
            self.assertEqual(divided(poly, found)[1], Poly(()))
        return found

    def test_all_pairs(self):
        polys = some_polys(12, 20) + [Poly(()), Poly((-4,)), Poly((0, 1))]
        before = [poly.numbers for poly in polys]
        for one in polys:
            for other in polys:
                self.check_common(one, other)
        self.assertEqual([poly.numbers for poly in polys], before)

    def test_with_known_roots(self):
        source = random.Random(13)
        for _ in range(60):
            roots = [[source.choice((0, 1, -2, (1, 2), (-5, 3))) for _ in range(source.randint(0, 5))]
                     for _ in range(2)]
            polys = [Poly((source.choice((-3, 1, (2, 7))),)) for _ in range(2)]
            shared = Poly((1,))
            for root in (0, 1, -2, (1, 2), (-5, 3)):
                factor = Poly((0, 1)) - root
                counts = [row.count(root) for row in roots]
                for k in range(2):
                    for _ in range(counts[k]):
                        polys[k] = polys[k] * factor
                for _ in range(min(counts)):
                    shared = shared * factor
            self.assertEqual(self.check_common(polys[0], polys[1]), shared)

    def test_of_products(self):
        source = random.Random(14)
        for _ in range(20):
            shared = some_poly(source, source.randint(0, 12), 10 ** 6)
            one = Poly((1, 0, 1)) * shared * source.choice((-1, 5))
            other = Poly((0, 3, 1)) * shared
            self.assertEqual(self.check_common(one, other), shared * pair(1 / fraction(shared.numbers[-1])))

    def test_edges(self):
        self.assertEqual(common(Poly(()), Poly(())).numbers, ())
        self.assertEqual(common(Poly(()), Poly((2, -4))).numbers, ((-1, 2), (1, 1)))
        self.assertEqual(common(Poly((2, -4)), Poly(())).numbers, ((-1, 2), (1, 1)))
        self.assertEqual(common(Poly((-7,)), Poly(((1, 9),))).numbers, ((1, 1),))
        self.assertEqual(common(Poly((5,)), Poly(())).numbers, ((1, 1),))
        self.assertEqual(common(Poly((1, 1)), Poly((2, 1))).numbers, ((1, 1),))
        poly = Poly((0, (1, 2), 3))
        self.assertEqual(common(poly, poly).numbers, ((0, 1), (1, 6), (1, 1)))

    def test_to_degree_40(self):
        source = random.Random(15)
        shared, one, other = [some_poly(source, degree) for degree in (12, 28, 27)]
        found = self.check_common(shared * one, shared * other)
        self.assertGreaterEqual(found.degree(), 12)


class KeptTest(unittest.TestCase):
    def test_no_call_changes_its_poly(self):
        poly, other = Poly((1, 2, (3, 4))), Poly((0, 5))
        before = (copy.deepcopy(vars(poly)), copy.deepcopy(vars(other)))
        start = [1, 2]
        results = (poly + other, poly - 1, (1, 2) * poly, -poly, poly.degree(), poly.at(start), poly.slope(),
                   poly.area(), poly.moved(start, start), divided(poly, other), common(poly, other), poly == other)
        self.assertEqual(len(results), 12)
        self.assertEqual((vars(poly), vars(other)), before)
        self.assertEqual(start, [1, 2])


if __name__ == "__main__":
    unittest.main()
