"""What several test files need."""

from fractions import Fraction


def fraction(ratio):
    """A ratio, as an integer or a pair, as a Fraction."""
    if isinstance(ratio, int):
        return Fraction(ratio)
    return Fraction(ratio[0], ratio[1])


def pair(number):
    """A Fraction or an integer as a ratio is told."""
    return (Fraction(number).numerator, Fraction(number).denominator)


def picture(value, depth=12):
    """What a value and all that it holds is now, to be compared with what it is later."""
    if depth == 0:
        return id(value)
    if isinstance(value, (list, tuple)):
        return (value.__class__, [picture(item, depth - 1) for item in value])
    if isinstance(value, dict):
        return (dict, [(picture(k, depth - 1), picture(item, depth - 1)) for k, item in value.items()])
    if value.__class__.__module__.startswith("toldmeans"):
        return (value.__class__, id(value), picture(vars(value), depth - 1))
    return (value.__class__, id(value))


def check_error(test, error_class, fields, call, *arguments):
    """That a call raises just this error, with just these values, and leaves its arguments."""
    before = picture(arguments)
    with test.assertRaises(error_class) as held:
        call(*arguments)
    error = held.exception
    test.assertIs(error.__class__, error_class)
    test.assertEqual(list(vars(error)), list(fields))
    for name, value in fields.items():
        if value.__class__ in (int, str):
            test.assertIs(getattr(error, name).__class__, value.__class__)
            test.assertEqual(getattr(error, name), value)
        else:
            test.assertIs(getattr(error, name), value)
    test.assertEqual(picture(arguments), before)


NO_RATIOS = (
    True, False, None, "", "1", "1/2", b"12", 0.5, 1.0, (), [], (1,), [1], (1, 2, 3), [1, 2, 3],
    (1, 0), [1, 0], (0, 0), (1, -2), [-1, -2], (True, 2), (1, True), [2, False], (1, None), ("1", 2),
    (1, "2"), (1.0, 2), (1, 2.0), ((1, 2), 3), [[1, 2], 3], (1, (2, 3)), ((1, 2), (3, 4)), {1: 2, 3: 4},
    Fraction(1, 2), range(1, 3), object,
)

RATIOS = (
    0, 1, -1, 7, -12, 10 ** 50, -10 ** 5000, (0, 1), (0, 9), [0, 4], (1, 2), (-1, 2), [3, 6], [-10, 4], (6, 3),
    (10 ** 40, 10 ** 20), [10 ** 30 + 1, 10 ** 30], (-7 ** 99, 14 ** 60), (5, 5), [12, 8],
)


def in_any_terms(source, number):
    """A Fraction as an integer, a tuple or a list that stands for it, in lowest terms or not."""
    number = Fraction(number)
    by = source.choice((1, 1, 2, 7))
    if number.denominator == 1 and source.random() < 0.5:
        return number.numerator
    return source.choice((tuple, list))((number.numerator * by, number.denominator * by))


def is_told(ratio):
    """Whether a value is a ratio just as ratios are told."""
    if ratio.__class__ is not tuple or [part.__class__ for part in ratio] != [int, int] or ratio[1] < 1:
        return False
    return ratio == pair(fraction(ratio))


def are_told(row):
    """Whether a value is a row of ratios just as they are told."""
    return row.__class__ is tuple and all(is_told(ratio) for ratio in row)


class Strange:
    """A value that is nothing of the package, but equals everything."""

    def __eq__(self, other):
        return True

    __hash__ = None


ANY_VALUES = (None, True, False, 0, 1, -1, 2.5, "", "x", b"", (), [], (1, 2), [1, 2], ((1, 2), (3, 4)), {}, {1: 2},
              set(), Strange(), Strange, object(), object, len, range(3), Fraction(1, 2))
