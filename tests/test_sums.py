"""[7] and [8]: the greatest value of a sum under sums of inequalities, with the conventions of [2]."""

import random
import unittest
from fractions import Fraction

from helpers import (ANY_VALUES, NO_RATIOS, are_told, check_error, fraction, in_any_terms, is_told, pair,
                     picture)
from toldmeans.errors import BadRow
from toldmeans.sums import Endless, Nothing, Reached, is_largest, largest

KINDS = (Reached, Endless, Nothing)


def fractions_of(row):
    return [fraction(ratio) for ratio in row]


def product(one, other):
    assert len(one) == len(other)
    return sum(a * b for a, b in zip(one, other))


def check_spots(test, rows, right, spots):
    test.assertEqual(len(spots), len(rows[0]))
    test.assertGreaterEqual(min(spots), 0)
    for row, bound in zip(rows, right):
        test.assertLessEqual(product(row, spots), bound)


def check_weights(test, rows, weights, bounds):
    test.assertEqual(len(weights), len(rows))
    test.assertGreaterEqual(min(weights), 0)
    for column, bound in zip(zip(*rows), bounds):
        test.assertGreaterEqual(product(column, weights), bound)


def check_told(test, rows, right, worth, told):
    """That an answer is as [7] describes it, by sums of its own."""
    rows = [fractions_of(row) for row in rows]
    right, worth = fractions_of(right), fractions_of(worth)
    test.assertIn(told.__class__, KINDS)
    for name, value in vars(told).items():
        test.assertTrue(is_told(value) if name == "number" else are_told(value), name)
    if isinstance(told, Nothing):
        weights = fractions_of(told.weights)
        check_weights(test, rows, weights, [0 for _ in worth])
        test.assertLess(product(right, weights), 0)
        return
    spots = fractions_of(told.spots)
    check_spots(test, rows, right, spots)
    if isinstance(told, Endless):
        run = fractions_of(told.run)
        check_spots(test, rows, [0 for _ in right], run)
        test.assertGreater(product(worth, run), 0)
        return
    weights, number = fractions_of(told.weights), fraction(told.number)
    check_weights(test, rows, weights, worth)
    test.assertEqual(product(worth, spots), number)
    test.assertEqual(product(right, weights), number)


class Case(unittest.TestCase):
    def solved(self, rows, right, worth):
        """The answer of largest, looked at in all ways."""
        before = picture((rows, right, worth))
        told = largest(rows, right, worth)
        check_told(self, rows, right, worth, told)
        self.assertIs(is_largest(rows, right, worth, told), True)
        self.assertEqual(picture((rows, right, worth)), before)
        return told


def some_question(source, height, width, lows, most, bottoms):
    """Rows, right and worth of Fractions, the right ones from one of the lows on."""
    def ratio(low):
        return Fraction(source.randint(low, most), source.choice(bottoms))
    low = source.choice(lows)
    rows = [[ratio(-most) * source.choice((0, 1, 1)) for _ in range(width)] for _ in range(height)]
    return rows, [ratio(low) for _ in range(height)], [ratio(-most) for _ in range(width)]


def passed(source, row):
    return source.choice((tuple, list))([in_any_terms(source, number) for number in row])


def passed_rows(source, rows):
    return source.choice((tuple, list))([passed(source, row) for row in rows])


class LargestTest(Case):
    def test_many_small_questions(self):
        source = random.Random(1)
        counts = {kind: 0 for kind in KINDS}
        for _ in range(700):
            height, width = source.randint(1, 5), source.randint(1, 5)
            rows, right, worth = some_question(source, height, width, (-4, -1, 0, 1), 4, (1, 1, 2, 3))
            told = self.solved(passed_rows(source, rows), passed(source, right), passed(source, worth))
            counts[told.__class__] += 1
        self.assertGreater(min(counts.values()), 60)

    def test_rows_of_up_to_ten(self):
        source = random.Random(2)
        counts = {kind: 0 for kind in KINDS}
        for _ in range(150):
            height, width = source.randint(4, 14), source.randint(4, 10)
            rows, right, worth = some_question(source, height, width, (-3, 0, 0, 1), 9, (1, 2, 5, 9))
            told = self.solved(passed_rows(source, rows), passed(source, right), passed(source, worth))
            counts[told.__class__] += 1
        self.assertGreater(min(counts.values()), 5)

    def feasible(self, source, height, width, most, bottoms, free):
        """A question with spots and a greatest value; the rows are tight at some spots but for what is free."""
        rows, _, _ = some_question(source, height, width, (0,), most, bottoms)
        spots = [Fraction(source.randint(0, 5), source.choice(bottoms)) for _ in range(width)]
        weights = [Fraction(source.choice((0, 0, 1, 2))) for _ in range(height)]
        right = [product(row, spots) + source.choice(free) for row in rows]
        worth = [product(column, weights) - source.choice((0, 0, 1)) for column in zip(*rows)]
        return passed_rows(source, rows), passed(source, right), passed(source, worth)

    def test_questions_that_start_without_spots(self):
        source = random.Random(3)
        for _ in range(60):
            question = self.feasible(source, source.randint(2, 12), source.randint(2, 10), 9, (1, 3), (0, 0, 1, 5))
            self.assertIsInstance(self.solved(*question), Reached)

    def test_the_greatest_sizes(self):
        source = random.Random(4)
        for free in ((0,), (0, 1, 7)):
            self.assertIsInstance(self.solved(*self.feasible(source, 40, 24, 9, (1, 2, 3), free)), Reached)
        for lows in ((0,), (-9,), (1,)):
            rows, right, worth = some_question(source, 40, 24, lows, 99, (1, 2, 5))
            self.solved(passed_rows(source, rows), passed(source, right), passed(source, worth))

    def test_long_numbers(self):
        source = random.Random(5)
        most = 10 ** 40 - 1
        for bottoms in ((1,), (most, most - 2, 10 ** 39 + 7)):
            for _ in range(4):
                rows, right, worth = some_question(source, 6, 6, (1, -most // 3), most, bottoms)
                self.solved(passed_rows(source, rows), passed(source, right), passed(source, worth))

    def test_known_answers(self):
        self.assertEqual(self.solved([[1, 1], [1, 0]], [4, 3], [1, 2]).number, (8, 1))
        self.assertEqual(self.solved(((2, 1), (1, 3)), (4, [6, 1]), ((1, 2), 1)).number, (11, 5))
        self.assertEqual(self.solved([[(1, 2)]], [[3, 4]], [[2, 6]]).number, (1, 2))
        told = self.solved([[1]], [5], [1])
        self.assertEqual((told.number, told.spots, told.weights), ((5, 1), ((5, 1),), ((1, 1),)))

    def test_one_item(self):
        self.assertEqual(self.solved([[1], [1]], [3, 2], [1]).number, (2, 1))
        self.assertEqual(self.solved([[-1], [2]], [-1, 5], [-1]).number, (-1, 1))
        self.assertIsInstance(self.solved([[-1]], [-1], [1]), Endless)
        self.assertIsInstance(self.solved([[1]], [-1], [1]), Nothing)
        self.assertIsInstance(self.solved([[1], [-1]], [1, -2], [0]), Nothing)
        self.assertEqual(self.solved([[1], [-1]], [1, -1], [7]).number, (7, 1))


class EdgesTest(Case):
    def test_rows_of_zeros(self):
        self.assertIsInstance(self.solved([[0, 0]], [0], [1, -1]), Endless)
        self.assertEqual(self.solved([[0, 0]], [0], [0, -1]).number, (0, 1))
        self.assertIsInstance(self.solved([[0, 0]], [-1], [1, 1]), Nothing)
        self.assertIsInstance(self.solved([[0, 0], [1, 1]], [(-1, 9), 4], [0, 0]), Nothing)

    def test_worths_of_0(self):
        self.assertEqual(self.solved([[1, 2], [3, 4]], [5, 6], [0, 0]).number, (0, 1))
        self.assertEqual(self.solved([[-1, -2], [3, 4]], [-1, 6], [0, 0]).number, (0, 1))
        self.assertEqual(self.solved([[-1, 1]], [2], [0, (0, 3)]).number, (0, 1))
        self.assertIsInstance(self.solved([[1, 1], [-1, -1]], [1, -2], [0, 0]), Nothing)

    def test_rows_that_leave_no_end(self):
        self.assertIsInstance(self.solved([[1, -1]], [3], [1, 0]), Endless)
        self.assertIsInstance(self.solved([[1, -1], [-1, 1]], [3, -2], [1, 0]), Endless)
        self.assertIsInstance(self.solved([[-1, 0], [0, -1]], [0, 0], [0, (1, 10 ** 30)]), Endless)
        self.assertEqual(self.solved([[1, -1]], [3], [1, -1]).number, (3, 1))

    def test_rows_that_bar_all(self):
        self.assertIsInstance(self.solved([[1, 1], [-1, -1]], [3, -4], [1, 1]), Nothing)
        self.assertIsInstance(self.solved([[1, 0], [0, 1], [-1, -1]], [1, 1, (-20001, 10000)], [0, 1]), Nothing)
        self.assertEqual(self.solved([[1, 0], [0, 1], [-1, -1]], [1, 1, -2], [0, 1]).number, (1, 1))
        self.assertIsInstance(self.solved([[2, 3], [4, 5]], [-1, 7], [1, 0]), Nothing)

    def test_right_ones_at_0(self):
        self.assertEqual(self.solved([[1, 1], [1, -1], [-1, 2]], [0, 0, 0], [5, 9]).number, (0, 1))
        self.assertIsInstance(self.solved([[1, -1], [-1, 1]], [0, 0], [1, 1]), Endless)
        source = random.Random(6)
        for _ in range(60):
            rows, _, worth = some_question(source, source.randint(2, 8), source.randint(2, 8), (0,), 3, (1, 2))
            told = self.solved([[pair(n) for n in row] for row in rows], [0 for _ in rows], [pair(n) for n in worth])
            self.assertNotIsInstance(told, Nothing)
            if isinstance(told, Reached):
                self.assertEqual(told.number, (0, 1))

    def test_ties(self):
        self.assertEqual(self.solved([[1, 1, 1]] * 4, [2] * 4, [3, 3, 3]).number, (6, 1))
        self.assertEqual(self.solved([[1, 0], [1, 0], [0, 1], [1, 1]], [1, 1, 1, 2], [1, 1]).number, (2, 1))
        self.assertEqual(self.solved([[1, 2], [1, 2], [-1, -2]], [4, 4, -4], [1, 2]).number, (4, 1))

    def test_questions_that_lead_careless_programs_round_in_circles(self):
        half = (1, 2)
        told = self.solved([[half, (-11, 2), (-5, 2), 9], [half, (-3, 2), (-1, 2), 1], [1, 0, 0, 0]], [0, 0, 1],
                           [10, -57, -9, -24])
        self.assertEqual(told.number, (1, 1))
        told = self.solved([[(1, 4), -60, (-1, 25), 9], [half, -90, (-1, 50), 3], [0, 0, 1, 0]], [0, 0, 1],
                           [(3, 4), -150, (1, 50), -6])
        self.assertEqual(told.number, (1, 20))
        self.solved([[half, -4, -1, 9], [half, (-3, 2), -1, 1]], [0, 0], [1, -7, -1, -2])

    def test_questions_with_very_many_corners(self):
        for many in (3, 10, 24):
            rows = [[2 ** (k - n + 1) if n < k else int(n == k) for n in range(many)] for k in range(many)]
            told = self.solved(rows, [5 ** (k + 1) for k in range(many)], [2 ** (many - 1 - n) for n in range(many)])
            self.assertEqual(told.number, (5 ** many, 1))

    def test_parts_of_one_whole(self):
        # Who does which of five works: each row and each column adds up to 1.
        source = random.Random(7)
        for _ in range(10):
            rows, right = [], []
            for k in range(4):
                for lines in ([int(n // 4 == k) for n in range(16)], [int(n % 4 == k) for n in range(16)]):
                    rows.extend([lines, [-n for n in lines]])
                    right.extend([1, -1])
            self.assertIsInstance(self.solved(rows, right, [source.randint(-9, 9) for _ in range(16)]), Reached)


NO_ROWS = (None, True, 0, 1, "", "12", 0.5, {}, (), [], ((),), [[]], [[], []], (1, 2), [1, 2], ([1], 2), [[1], None],
           [[1, 2], [3]], [[1], [2, 3]], [[1, 2], []], ["12"], [[[1]]], [{1: 2}], [range(2)], range(2), object())
NO_ROW = (None, True, 3, "", "12", 0.5, {}, {1: 2, 3: 4}, range(2), (), [], [1], (1, 2, 3), object())


class ErrorsTest(unittest.TestCase):
    def check_row(self, row, *arguments):
        check_error(self, BadRow, {"row": row}, largest, *arguments)
        told = Reached(0, (0, 0), (0, 0))
        check_error(self, BadRow, {"row": row}, is_largest, *arguments, told)
        check_error(self, BadRow, {"row": row}, is_largest, *arguments, None)

    def test_what_are_no_rows(self):
        for rows in NO_ROWS:
            self.check_row(rows, rows, [1, 2], [3, 4])
        for value in NO_RATIOS:
            for rows in ([[1, value]], [[1, 2], [value, 1]], ((value,),), [(1,), (value,)]):
                self.check_row(rows, rows, [1 for _ in rows], [1 for _ in rows[0]])

    def test_what_is_no_right(self):
        for right in NO_ROW:
            self.check_row(right, [[1, 2], [3, 4]], right, [5, 6])
        for value in NO_RATIOS:
            for right in ([1, value], (value, 1)):
                self.check_row(right, [[1, 2], [3, 4]], right, [5, 6])
        right = [1, 2, 3]
        self.check_row(right, [[1, 2, 3], [4, 5, 6]], right, [7, 8, 9])

    def test_what_is_no_worth(self):
        for worth in NO_ROW:
            self.check_row(worth, [[1, 2], [3, 4]], [5, 6], worth)
        for value in NO_RATIOS:
            for worth in ([1, value], (value, 1)):
                self.check_row(worth, [[1, 2], [3, 4]], [5, 6], worth)
        worth = (1, 2)
        self.check_row(worth, [[1, 2, 3], [4, 5, 6]], [7, 8], worth)

    def test_the_first_of_several_counts(self):
        rows, right, worth = [[1, 2], [3]], [None], "worth"
        self.check_row(rows, rows, right, worth)
        self.check_row(right, [[1, 2]], right, worth)
        self.check_row(rows, rows, [1, 2], worth)

    def test_nothing_is_changed(self):
        rows, right = [[1, [2, 4]], [[0, 1], 3]], [1]
        with self.assertRaises(BadRow):
            largest(rows, right, [1, 2])
        self.assertEqual((rows, right), ([[1, [2, 4]], [[0, 1], 3]], [1]))


class JudgeTest(unittest.TestCase):
    # The greatest value is 8: two spots of 0 and 4, two weights of 2 and 0.
    question = ([[1, 1], [1, 0]], [4, 3], [1, 2])
    endless = ([[1, -1], [0, 1]], [2, 6], [-1, 0])

    def judged(self, told, question=None):
        found = is_largest(*(question or self.question), told)
        self.assertIn(found, (True, False))
        return found

    def test_right_answers_in_any_terms(self):
        for number in (8, (8, 1), (16, 2)):
            for spots in ((0, 4), ((0, 1), (4, 1)), ((0, 9), (8, 2)), [0, 4]):
                for weights in ((2, 0), ((2, 1), (0, 3)), [(4, 2), 0]):
                    self.assertIs(self.judged(Reached(number, spots, weights)), True)
        self.assertIs(self.judged(Reached([8, 1], (0, 4), (2, 0))), True)

    def test_one_thing_changed(self):
        for told in (Reached((17, 2), (0, 4), (2, 0)), Reached(7, (0, 4), (2, 0)), Reached(8, (1, 3), (2, 0)),
                     Reached(8, (-1, 5), (2, 0)), Reached(8, (0, (7, 2)), (2, 0)), Reached(8, (0, 4), (2, (1, 9))),
                     Reached(8, (0, 4), ((5, 2), 0)), Reached(8, (0, 4), (0, 2)), Reached(8, (0, 4), (-2, 0)),
                     Reached(8, (0, 4, 0), (2, 0)), Reached(8, (0, 4), (2, 0, 0)), Reached(8, (0,), (2, 0)),
                     Reached(8, (4, 0), (2, 0)), Reached(8, (), ()), Reached(12, (0, 6), (3, 0)),
                     Reached(7, (1, 3), ((1, 1), 1)), Reached(8, (0, 4), (1, (4, 3)))):
            self.assertIs(self.judged(told), False, vars(told))

    def test_values_of_other_kinds_within(self):
        for value in ANY_VALUES + ([8, 1], (8, 0), (-8, -1), (True, 1), ((8, 1),), "8", 8.0):
            self.assertIs(self.judged(Reached(value, (0, 4), (2, 0))), value in ([8, 1],) and value.__class__ is list)
            self.assertIs(self.judged(Reached(8, value, (2, 0))), False)
            self.assertIs(self.judged(Reached(8, (0, 4), value)), False)
            self.assertIs(self.judged(Reached(8, (value, 4), (2, 0))), value.__class__ is int and value == 0)
            self.assertIs(self.judged(Reached(8, (0, 4), (2, value))), value.__class__ is int and value == 0)
        self.assertIs(self.judged(Reached(8, ([0, 1], 4), (2, 0))), False)
        self.assertIs(self.judged(Reached(8, (0, 4), ([2, 1], 0))), False)
        self.assertIs(self.judged(Reached(8, (False, 4), (2, 0))), False)

    def test_answers_of_another_kind(self):
        for told in (Endless((0, 4), (1, 1)), Endless((0, 4), (0, 0)), Nothing((2, 0)), Nothing((0, 0))):
            self.assertIs(self.judged(told), False)
        for value in ANY_VALUES + ((8, (0, 4), (2, 0)), Reached, Endless):
            self.assertIs(self.judged(value), False)

    def test_endless(self):
        question = ([[1, -1], [-1, 0]], [2, 6], [1, 0])
        right = Endless((0, 0), (1, 1))
        self.assertIs(self.judged(right, question), True)
        self.assertIs(self.judged(Endless((2, (0, 5)), ((1, 3), (2, 4))), question), True)
        self.assertIs(self.judged(Endless([0, 0], [1, 2]), question), True)
        for told in (Endless((3, 0), (1, 1)), Endless((-1, 0), (1, 1)), Endless((0, 0), (1, 0)),
                     Endless((0, 0), (0, 1)), Endless((0, 0), (0, 0)), Endless((0, 0), (-1, -1)), Endless((0,), (1, 1)),
                     Endless((0, 0), (1, 1, 0)), Endless((0, 0, 0), (1, 1)), Endless(((0, 1), [0, 1]), (1, 1)),
                     Endless((0, 0), (True, 1)), Endless(None, (1, 1)), Endless((0, 0), None), Nothing((1, 1)),
                     Reached(2, (2, 0), (1, 0)), Endless((0, 0), ((1, 1), (1, 0)))):
            self.assertIs(self.judged(told, question), False, vars(told))
        for worth in ([0, 0], [-1, 0], [-1, 1]):
            self.assertIs(self.judged(right, (question[0], question[1], worth)), False)

    def test_nothing(self):
        question = ([[1, 1], [-1, 0]], [1, -2], [0, 5])
        for weights in ((1, 1), ((3, 1), (5, 2)), [1, 1], ((2, 2), (6, 7))):
            self.assertIs(self.judged(Nothing(weights), question), True)
        for weights in ((1, (1, 2)), (1, 2), (0, 0), (-1, -1), (1,), (1, 1, 0), ([1, 1], 1), (True, 1), None, 1,
                        (0, 1), (1, 0), ((2, 1), 1), "11", (1.0, 1)):
            self.assertIs(self.judged(Nothing(weights), question), False, weights)
        for told in (Reached(0, (1, 0), (0, 0)), Endless((0, 0), (0, 0)), (1, 1), ((1, 1),)):
            self.assertIs(self.judged(told, question), False)

    def test_answers_of_the_program_with_one_number_changed(self):
        source = random.Random(8)
        for _ in range(60):
            rows, right, worth = some_question(source, 3, 3, (-2, 0, 1), 3, (1,))
            question = [[[int(n) for n in row] for row in rows], [int(n) for n in right], [int(n) for n in worth]]
            told = largest(*question)
            for name, value in vars(told).items():
                items = [value] if name == "number" else list(value)
                for k in range(len(items)):
                    for new in (-1, [0, 1], None, 1.0):
                        row = items[:k] + [new] + items[k + 1:]
                        fields = {**vars(told), name: row[0] if name == "number" else tuple(row)}
                        if name == "number" and (new == [0, 1] or fraction(value) == new):
                            continue
                        self.assertIs(self.judged(told.__class__(**fields), question), False)


class ObjectsTest(unittest.TestCase):
    def test_they_keep_what_they_are_given(self):
        for kind, many in ((Reached, 3), (Endless, 2), (Nothing, 1)):
            names = {Reached: ["number", "spots", "weights"], Endless: ["spots", "run"], Nothing: ["weights"]}[kind]
            for value in ANY_VALUES + ((1, [2]), "text", (2, 4)):
                made = kind(*[value for _ in range(many)])
                self.assertEqual(list(vars(made)), names)
                for name in names:
                    if isinstance(value, list):
                        self.assertEqual(getattr(made, name), tuple(value))
                        self.assertIs(getattr(made, name).__class__, tuple)
                    else:
                        self.assertIs(getattr(made, name), value)

    def test_lists_are_copied_but_not_lists_within(self):
        inner = [1, 2]
        row = [inner, 3]
        made = Nothing(row)
        row.append(4)
        self.assertEqual(made.weights, ([1, 2], 3))
        self.assertIs(made.weights[0], inner)

    def test_each_equals_itself_alone(self):
        made = [Reached(1, (1,), (1,)), Reached(1, (1,), (1,)), Endless((1,), (1,)), Nothing((1,)), Nothing((1,))]
        for k, one in enumerate(made):
            for n, other in enumerate(made):
                self.assertIs(one == other, k == n)


if __name__ == "__main__":
    unittest.main()
