"""What several test files need."""

import copy
from fractions import Fraction


def fraction(ratio):
    """A ratio, as an integer or a pair, as a Fraction."""
    if isinstance(ratio, int):
        return Fraction(ratio)
    return Fraction(ratio[0], ratio[1])


def pair(number):
    """A Fraction or an integer as a ratio is told."""
    return (Fraction(number).numerator, Fraction(number).denominator)


def check_error(test, error_class, fields, call, *arguments):
    """That a call raises just this error, with just these values, and leaves its arguments."""
    before = copy.deepcopy(arguments)
    with test.assertRaises(error_class) as held:
        call(*arguments)
    error = held.exception
    test.assertIs(error.__class__, error_class)
    test.assertEqual(list(vars(error)), list(fields))
    for name, value in fields.items():
        test.assertIs(getattr(error, name), value)
    test.assertEqual(arguments, before)


NO_RATIOS = (
    True, False, None, "", "1", "1/2", b"12", 0.5, 1.0, (), [], (1,), [1], (1, 2, 3), [1, 2, 3],
    (1, 0), [1, 0], (0, 0), (1, -2), [-1, -2], (True, 2), (1, True), [2, False], (1, None), ("1", 2),
    (1, "2"), (1.0, 2), (1, 2.0), ((1, 2), 3), [[1, 2], 3], (1, (2, 3)), ((1, 2), (3, 4)), {1: 2, 3: 4},
    Fraction(1, 2), range(1, 3), object,
)

RATIOS = (
    0, 1, -1, 7, -12, 10 ** 50, -10 ** 5000, (0, 1), (0, 9), [0, 4], (1, 2), (-1, 2), [3, 6], [-10, 4], (6, 3),
    (10 ** 40, 10 ** 20), [10 ** 30 + 1, 10 ** 30], (-7 ** 99, 14 ** 60), (5, 5), [12, 8],
)
