"""[4]: ratios, with the conventions of [2]."""

import copy
import math
import random
import unittest

from helpers import NO_RATIOS, RATIOS, check_error, fraction, pair
from toldmeans.errors import BadNumber
from toldmeans.ratios import floor_of, is_ratio, lower, minus, plus, ratio_text, share, times, told

OF_TWO = (plus, minus, times, share, lower)


def ratio_error(test, value, call, *arguments):
    check_error(test, BadNumber, {"what": "ratio", "number": value}, call, *arguments)


class KindTest(unittest.TestCase):
    def test_integers_and_pairs_are_ratios(self):
        for value in RATIOS:
            self.assertIs(is_ratio(value), True)

    def test_nothing_else_is_one(self):
        for value in NO_RATIOS:
            self.assertIs(is_ratio(value), False, repr(value))

    def test_values_that_hold_themselves_are_none(self):
        loop = []
        loop.extend([loop, loop])
        self.assertIs(is_ratio(loop), False)

    def test_told_is_in_lowest_terms(self):
        for value in RATIOS:
            found = told(value, "place")
            self.assertIs(found.__class__, tuple)
            self.assertEqual(found, pair(fraction(value)))
        self.assertEqual(told(0, "a"), (0, 1))
        self.assertEqual(told([0, 12], "a"), (0, 1))
        self.assertEqual(told((-6, 4), "a"), (-3, 2))
        self.assertEqual(told([8, 4], "a"), (2, 1))

    def test_told_raises_with_any_what(self):
        for value in NO_RATIOS:
            for what in ("place", "", 3, ["a"], None):
                check_error(self, BadNumber, {"what": what, "number": value}, told, value, what)

    def test_the_error_keeps_the_value_itself(self):
        value = [1, [2, 3]]
        for call in (lambda: told(value, "a"), lambda: plus(value, 1), lambda: plus(1, value),
                     lambda: floor_of(value), lambda: ratio_text(value)):
            with self.assertRaises(BadNumber) as held:
                call()
            self.assertIs(held.exception.number, value)
        self.assertEqual(value, [1, [2, 3]])


class ReckoningTest(unittest.TestCase):
    def check_both(self, one, other):
        a, b = fraction(one), fraction(other)
        self.assertEqual(plus(one, other), pair(a + b))
        self.assertEqual(minus(one, other), pair(a - b))
        self.assertEqual(times(one, other), pair(a * b))
        self.assertIs(lower(one, other), a < b)
        if b != 0:
            self.assertEqual(share(one, other), pair(a / b))
        else:
            check_error(self, BadNumber, {"what": "divisor", "number": other}, share, one, other)

    def test_all_pairs_of_ratios(self):
        before = copy.deepcopy(RATIOS)
        for one in RATIOS:
            for other in RATIOS:
                self.check_both(one, other)
        self.assertEqual(RATIOS, before)

    def test_many_ratios(self):
        source = random.Random(4)
        for _ in range(500):
            bits = source.choice((2, 5, 40, 300))
            values = [source.choice((tuple, list))((source.randint(-2 ** bits, 2 ** bits), source.randint(1, 2 ** bits)))
                      for _ in range(2)]
            self.check_both(values[0], values[1])
            self.check_both(values[0], source.randint(-9, 9))

    def test_results_are_tuples_of_two_integers(self):
        for call in (plus, minus, times, share):
            found = call([4, 2], [6, 3])
            self.assertIs(found.__class__, tuple)
            self.assertEqual([part.__class__ for part in found], [int, int])

    def test_a_divisor_of_0_is_told_as_it_was_passed(self):
        for zero in (0, (0, 1), (0, 7), [0, 3]):
            for one in (0, 5, (1, 2), [0, 2]):
                check_error(self, BadNumber, {"what": "divisor", "number": zero}, share, one, zero)

    def test_a_value_that_is_no_ratio_in_either_place(self):
        for call in OF_TWO:
            for value in NO_RATIOS:
                ratio_error(self, value, call, value, 1)
                ratio_error(self, value, call, [1, 2], value)

    def test_the_first_of_two_wrong_values_counts(self):
        for call in OF_TWO:
            for value in NO_RATIOS:
                ratio_error(self, value, call, value, "second")
                ratio_error(self, "first", call, "first", value)
        ratio_error(self, (1, 0), share, (1, 0), 0)
        ratio_error(self, True, share, True, (0, 2))


class FloorTest(unittest.TestCase):
    def test_floors(self):
        for value in RATIOS:
            found = floor_of(value)
            self.assertIs(found.__class__, int)
            self.assertEqual(found, math.floor(fraction(value)))
        self.assertEqual([floor_of(v) for v in (0, -1, (7, 2), (-7, 2), [-1, 100], (-8, 4), [99, 100])],
                         [0, -1, 3, -4, -1, -2, 0])

    def test_errors(self):
        for value in NO_RATIOS:
            ratio_error(self, value, floor_of, value)


class TextTest(unittest.TestCase):
    def test_texts(self):
        texts = {(0, 5): "0", (1, 1): "1", (-1, 1): "-1", (1, 2): "1/2", (-1, 2): "-1/2", (6, 4): "3/2",
                 (-6, 3): "-2", (10, 1): "10", (100, 30): "10/3", (22, 7): "22/7", (-3, 100): "-3/100"}
        for value, text in texts.items():
            self.assertEqual(ratio_text(value), text)
            self.assertEqual(ratio_text(list(value)), text)
        self.assertEqual([ratio_text(v) for v in (0, 12, -345)], ["0", "12", "-345"])

    def test_numbers_with_zeros_within_and_at_block_ends(self):
        for digits in (58, 59, 60, 61, 119, 120, 121, 180):
            self.assertEqual(ratio_text(10 ** digits), "1" + "0" * digits)
            self.assertEqual(ratio_text(10 ** digits - 1), "9" * digits)
            self.assertEqual(ratio_text((-1, 10 ** digits + 7)), "-1/1" + "0" * (digits - 1) + "7")

    def test_numbers_beyond_what_python_writes_at_once(self):
        ones = (10 ** 6001 - 1) // 9
        self.assertEqual(ratio_text(7 * ones), "7" * 6001)
        self.assertEqual(ratio_text((-10 ** 5000, 3)), "-1" + "0" * 5000 + "/3")
        self.assertEqual(ratio_text([2, 10 ** 7000 + 1]), "2/1" + "0" * 6999 + "1")

    def test_as_python_writes_ratios(self):
        source = random.Random(5)
        for _ in range(300):
            value = (source.randint(-10 ** 200, 10 ** 200), source.randint(1, 10 ** source.randint(0, 200)))
            self.assertEqual(ratio_text(value), str(fraction(value)))

    def test_errors(self):
        for value in NO_RATIOS:
            ratio_error(self, value, ratio_text, value)


if __name__ == "__main__":
    unittest.main()
