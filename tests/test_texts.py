"""[15]: texts of polynomials and functions, with the conventions of [2]."""

import random
import re
import unittest
from fractions import Fraction

from helpers import ANY_VALUES, check_error, fraction, pair
from test_broken import some_functions
from toldmeans.broken import Broken
from toldmeans.errors import BadText
from toldmeans.polys import Poly
from toldmeans.texts import broken_of, broken_text, poly_of, poly_text

X = Poly((0, 1))

# The grammar of [15] once more, as patterns for whole texts.
WHOLE = "(?:0|[1-9][0-9]{0,29})"
NUMBER = f"{WHOLE}(?:/[1-9][0-9]{{0,29}})?"
POWER = r"x(?:\^(?:1[0-2]|[0-9]))?"
TERM = rf"(?:{NUMBER}(?: *\* *{POWER})?|{POWER})"
POLY = f"(?:- *)?{TERM}(?: *[+-] *{TERM})*"
RATIO = f"-?{NUMBER}"
KNOT = f"{RATIO}(?: *= *{RATIO})?"
POLY_TEXT = re.compile(f" *{POLY} *")
BROKEN_TEXT = re.compile(f" *{KNOT}(?: *: *{POLY} *: *{KNOT})+ *")

# What makes a right text of each beginning of one.
POLY_ENDS = ("", "0", "1", "x", "^1")
BROKEN_ENDS = tuple(one + other for one in POLY_ENDS for other in ("", ":0", ":0:0", ":0:0:0"))


def wrong_column(text, pattern, ends):
    """None for a right text, otherwise the column of its error, by the grammar alone."""
    if pattern.fullmatch(text):
        return None
    # A beginning of what some right text begins with is one, too: so halving finds the longest one.
    right, wrong = 0, len(text) + 1
    while wrong - right > 1:
        many = (right + wrong) // 2
        if any(pattern.fullmatch(text[:many] + end) for end in ends):
            right = many
        else:
            wrong = many
    return right + 1


def some_number(source):
    top = source.choice((0, 1, 2, source.randint(0, 99), source.randint(0, 10 ** 30 - 1)))
    if source.random() < 0.5:
        return str(top), Fraction(top)
    bottom = source.choice((1, 2, source.randint(1, 99), source.randint(1, 10 ** 30 - 1)))
    return f"{top}/{bottom}", Fraction(top, bottom)


def some_ratio(source):
    text, number = some_number(source)
    if source.random() < 0.4:
        return "-" + text, -number
    return text, number


def some_power(source):
    power = source.randint(0, 12)
    if power == 1 and source.random() < 0.7:
        return "x", 1
    return f"x^{power}", power


def spaces(source):
    return " " * source.choice((0, 0, 1, 1, 2, 5))


def some_term(source):
    kind = source.randint(0, 2)
    if kind == 0:
        return (*some_number(source), 0)
    text, power = some_power(source)
    if kind == 1:
        return text, Fraction(1), power
    first, number = some_number(source)
    return f"{first}{spaces(source)}*{spaces(source)}{text}", number, power


def some_poly_text(source):
    """A text of a polynomial without spaces at its ends, and its numbers."""
    numbers = [Fraction(0)] * 13
    parts = []
    for k in range(source.choice((1, 1, 2, 3, 8))):
        term, number, power = some_term(source)
        sign = source.choice(("+", "-")) if k else source.choice(("", "-"))
        parts.extend([sign + spaces(source) if sign else "", term, spaces(source)])
        numbers[power] += -number if sign == "-" else number
    return "".join(parts[:-1]), Poly([pair(number) for number in numbers])


def some_broken_text(source):
    """A text of a function whose knots ascend, and its knots, Polys and told numbers."""
    knots = sorted({some_ratio(source)[1] for _ in range(source.randint(2, 5))} | {Fraction(-1, 3), Fraction(2, 7)})
    parts, polys, told = [], [], []
    for knot in knots:
        text, number = str(knot), None
        if source.random() < 0.5:
            more, number = some_ratio(source)
            text = f"{text}{spaces(source)}={spaces(source)}{more}"
        parts.append(text)
        told.append(number)
        poly, worth = some_poly_text(source)
        parts.append(poly)
        polys.append(worth)
    text = "".join(f"{spaces(source)}{part}{spaces(source)}:" for part in parts[:-1])
    return text[:-1], knots, polys[:-1], told


def spoiled(source, text):
    """A text with some characters changed, left out or put in."""
    found = text
    for _ in range(source.randint(1, 2)):
        at = source.randint(0, len(found))
        new = source.choice("x^*/+-=: 0123456789" + "ya.\t\n(")
        found = found[:at] + source.choice(("", new, new)) + found[at + source.choice((0, 0, 1, 3)):]
    return found


class Case(unittest.TestCase):
    def check_column(self, call, text, column):
        check_error(self, BadText, {"column": column}, call, text)

    def check_wrong(self, call, text, column):
        pattern, ends = (POLY_TEXT, POLY_ENDS) if call == poly_of else (BROKEN_TEXT, BROKEN_ENDS)
        self.assertEqual(wrong_column(text, pattern, ends), column, repr(text))
        self.check_column(call, text, column)


class PolyOfTest(Case):
    def test_right_texts(self):
        for text, numbers in (("0", ()), ("5", (5,)), ("x", (0, 1)), ("-x", (0, -1)), ("- x", (0, -1)), (" 1 ", (1,)),
                              ("x^0", (1,)), ("3*x^0 + 2", (5,)), ("x^1", (0, 1)), ("x^12", (0,) * 12 + (1,)),
                              ("x^10-x^11", (0,) * 10 + (1, -1)), ("1/2*x^2 - 3", (-3, 0, (1, 2))),
                              ("   -   4/6  *  x  +  x  -  1/3 * x   ", (0,)), ("x + x + x", (0, 3)), ("x-x", ()),
                              ("0*x^12", ()), ("0/7", ()), ("2-3+4", (3,)), ("-0", ()),
                              ("9" * 30 + "/" + "3" * 30, (3,)), ("x^2+1+x^2", (1, 0, 2)), ("-1/2 + 1/2", ())):
            self.assertEqual(poly_of(text), Poly(numbers), text)

    def test_many_texts(self):
        source = random.Random(1)
        for _ in range(1500):
            text, poly = some_poly_text(source)
            text = spaces(source) + text + spaces(source)
            self.assertIsNotNone(POLY_TEXT.fullmatch(text))
            self.assertEqual(poly_of(text), poly, repr(text))

    def test_long_texts(self):
        self.assertEqual(poly_of(" + ".join(["1/3*x^2"] * 3000)), Poly((0, 0, 1000)))
        self.check_column(poly_of, " " * 5000, 5001)
        self.check_column(poly_of, "x + " * 3000, 12001)

    def test_known_wrong_texts(self):
        for text, column in (("", 1), ("   ", 4), ("+x", 1), ("-", 2), ("- ", 3), ("--x", 2), ("y", 1), ("x y", 3),
                             ("1 2", 3), ("01", 2), ("00", 2), ("1/0", 3), ("1/01", 3), ("1/", 3), ("1 /2", 3),
                             ("1/ 2", 3), ("1/-2", 3), ("1/2/3", 4), ("2x", 2), ("2 x", 3), ("2*", 3), ("2* ", 4),
                             ("2*3", 3), ("2*-x", 3), ("x*2", 2), ("x x", 3), ("xx", 2), ("x^", 3), ("x ^2", 3),
                             ("x^ 2", 3), ("x^-1", 3), ("x^13", 4), ("x^20", 4), ("x^01", 4), ("x^00", 4),
                             ("x^100", 5), ("x^120", 5), ("x^12345", 5), ("x^1 2", 5), ("x^2^2", 4), ("x +", 4),
                             ("x + - 1", 5), ("x ++ 1", 4), ("x + ", 5), ("x;", 2), ("(x)", 1), ("1.5", 2), ("X", 1),
                             ("x\n", 2), ("\tx", 1), ("x\t", 2), ("x +\t1", 4), ("0 : x : 1", 3), ("1=2", 2),
                             ("1" * 31, 31), ("1/" + "1" * 31, 33), ("0" * 3, 2), ("5:", 2),
                             ("1" * 40, 31), ("x^" + "1" * 40, 5), ("1/2 *", 6), ("x^2 *x", 5), ("~", 1), (" 7 7", 4)):
            self.check_wrong(poly_of, text, column)

    def test_spoiled_texts(self):
        source = random.Random(2)
        wrong = 0
        for _ in range(3000):
            text = spoiled(source, some_poly_text(source)[0])[:60]
            column = wrong_column(text, POLY_TEXT, POLY_ENDS)
            if column is None:
                self.assertIsInstance(poly_of(text), Poly)
            else:
                wrong += 1
                self.check_column(poly_of, text, column)
        self.assertGreater(wrong, 1000)

    def test_short_texts_of_all_kinds(self):
        source = random.Random(3)
        for _ in range(4000):
            text = "".join(source.choice("x^*/+- 012") for _ in range(source.randint(0, 7)))
            column = wrong_column(text, POLY_TEXT, POLY_ENDS)
            if column is not None:
                self.check_column(poly_of, text, column)
            else:
                self.assertIsInstance(poly_of(text), Poly)

    def test_digits_of_other_scripts_are_none(self):
        for digit in ("\u0665", "\u00b2", "\uff11"):
            self.check_column(poly_of, digit, 1)
            self.check_column(poly_of, "1" + digit, 2)
            self.check_column(poly_of, "x^" + digit, 3)

    def test_what_is_no_string(self):
        for value in ANY_VALUES + (b"x", ["x"], X, Poly(())):
            if not isinstance(value, str):
                self.check_column(poly_of, value, 0)
                self.check_column(broken_of, value, 0)


class BrokenOfTest(Case):
    def test_right_texts(self):
        one = Poly((1,))
        for text, wanted in (("0 : x : 1", Broken((0, 1), (X,), (0, 1))),
                             ("0:x:1", Broken((0, 1), (X,), (0, 1))),
                             ("  -1/2  =  3  :  - x  :  0  =  -4/6  ", Broken(((-1, 2), 0), (-X,), (3, (-2, 3)))),
                             ("0 : 1 : 1 : x : 2", Broken((0, 1, 2), (one, X), (1, 1, 2))),
                             ("0 : 1 : 1 : 2*x : 2", Broken((0, 1, 2), (one, 2 * X), (1, 2, 4))),
                             ("0 : 3 : 1 : 2*x : 2", Broken((0, 1, 2), (Poly((3,)), 2 * X), (3, 3, 4))),
                             ("0 : 3 : 1 = 1 : 2*x : 2=7", Broken((0, 1, 2), (Poly((3,)), 2 * X), (3, 1, 7))),
                             ("-3/2:0:0=-0:x^2-1:6/4", Broken(((-3, 2), 0, (3, 2)), (Poly(()), X * X - 1), (0, 0, (5, 4)))),
                             ("1 : x : 2 = 2", Broken((1, 2), (X,), (1, 2))),
                             ("0 : x^12 : 1", Broken((0, 1), (Poly((0,) * 12 + (1,)),), (0, 1)))):
            self.assertEqual(broken_of(text), wanted, text)

    def test_many_texts(self):
        source = random.Random(4)
        for _ in range(500):
            text, knots, polys, told = some_broken_text(source)
            self.assertIsNotNone(BROKEN_TEXT.fullmatch(text), text)
            f = broken_of(text)
            self.assertEqual(f.knots, tuple(pair(knot) for knot in knots))
            self.assertEqual(f.polys, tuple(polys))
            for k, number in enumerate(told):
                limits = [fraction(limit) for limit in f.limits(f.knots[k]) if limit is not None]
                self.assertEqual(fraction(f.at[k]), max(limits) if number is None else number)

    def test_known_wrong_texts(self):
        for text, column in (("", 1), (" ", 2), ("x", 1), ("0", 2), ("0 ", 3), ("0 :", 4), ("0 : ", 5), ("0 : x", 6),
                             ("0 : x :", 8), ("0 : x : 1 :", 12), ("0 : x : 1 : x", 14), ("0 : x : 1 : x :", 16),
                             ("0 : x : 1 ; ", 11), ("- 1 : x : 2", 2), ("--1 : x : 2", 2), ("+1 : x : 2", 1),
                             ("-x : x : 2", 2), ("0 : : 1", 5), ("0 :: 1", 4), ("0 = : x : 1", 5), ("0 = - 1 : x : 1", 6),
                             ("0 = 1 = 2 : x : 1", 7), ("0 == 1 : x : 1", 4), ("0 : x = 1 : 1", 7), ("0 : x : x", 9),
                             ("0 : x : 1 + 1", 11), ("0 + 1 : x : 2", 3), ("0*x : x : 2", 2), ("0 : x : 1 x", 11),
                             ("0 : 2 x : 1", 7), ("0 : x^13 : 1", 8), ("0 : x : 01", 10), ("0 : x : 1/0", 11),
                             ("0 : x : 1 = 1 :", 16), ("0 : x : 1 = ", 13), ("0 : x : 1 = 1 1", 15), ("0\t: x : 1", 2),
                             ("0 : x : 1\n", 10), ("00 : x : 1", 2), ("0, 1", 2), ("0 : +x : 1", 5), ("1 : x : 0 :", 12),
                             ("1 : x : 0 : y", 13), ("5 : x : 5 = ", 13), ("0 : " + "1" * 31 + " : 1", 35)):
            self.check_wrong(broken_of, text, column)

    def test_knots_that_do_not_ascend(self):
        for text in ("1 : x : 0", "0 : x : 0", "0 : x : 1 : x : 1", "0 : x : 2 : x : 1", "1/2 : x : 2/4", "0 : x : -1",
                     "  3  :  x  :  2  ", "0 = 1 : x : 0 = 2", "-1 : x : -2 : x : 5", "0 : x : 0/9"):
            self.check_column(broken_of, text, 1)

    def test_spoiled_texts(self):
        source = random.Random(5)
        wrong = 0
        for _ in range(1500):
            text = spoiled(source, some_broken_text(source)[0])
            column = wrong_column(text, BROKEN_TEXT, BROKEN_ENDS)
            if column is not None:
                wrong += 1
                self.check_column(broken_of, text, column)
            else:
                try:
                    self.assertIsInstance(broken_of(text), Broken)
                except BadText as error:
                    self.assertEqual(error.column, 1)
        self.assertGreater(wrong, 500)

    def test_short_texts_of_all_kinds(self):
        source = random.Random(6)
        for _ in range(3000):
            text = source.choice(("", "0:", "0:x", "0:x:")) + "".join(
                source.choice("x^*/+-=:: 012") for _ in range(source.randint(0, 7)))
            column = wrong_column(text, BROKEN_TEXT, BROKEN_ENDS)
            if column is not None:
                self.check_column(broken_of, text, column)


class PolyTextTest(Case):
    def test_known_texts(self):
        for numbers, text in (((), "0"), ((5,), "5"), ((-5,), "-5"), ((1,), "1"), ((-1,), "-1"), ((0, 1), "x"),
                              ((0, -1), "-x"), ((0, 2), "2*x"), ((0, -2), "-2*x"), ((1, 1), "1 + x"),
                              ((1, -1), "1 - x"), ((-1, -1), "-1 - x"), ((0, 0, 1), "x^2"), ((0, 0, -1), "-x^2"),
                              (((1, 2), (-2, 6), (3, 9)), "1/2 - 1/3*x + 1/3*x^2"), ((0, 0, 0, (-7, 2)), "-7/2*x^3"),
                              ((3, 0, 0, 1), "3 + x^3"), ((0, 1, 0, -1), "x - x^3"),
                              ((0,) * 12 + (1,), "x^12"), ((0,) * 30 + (-1,), "-x^30"), ((0, (10, 5)), "2*x")):
            self.assertEqual(poly_text(Poly(numbers)), text)

    def test_long_numbers(self):
        ones = (10 ** 6000 - 1) // 9
        self.assertEqual(poly_text(Poly((0, ones))), "1" * 6000 + "*x")
        self.assertEqual(poly_text(Poly(((-1, ones),))), "-1/" + "1" * 6000)

    def test_there_and_back(self):
        source = random.Random(7)
        for _ in range(500):
            poly = some_poly_text(source)[1]
            numbers = [number for number in poly.numbers if max(map(abs, number)) < 10 ** 30]
            poly = Poly(numbers)
            text = poly_text(poly)
            self.assertEqual(poly_of(text), poly)
            self.assertEqual(poly_text(poly_of(text)), text)
            self.assertNotIn("  ", text)


class BrokenTextTest(Case):
    def test_known_texts(self):
        for text in ("0 : x : 1", "-1/2 = 3 : -x : 0 = -2/3", "0 : 1 : 1 : 2*x : 2", "0 : 3 : 1 = 2 : 2*x : 2",
                     "0 = 1 : 0 : 1", "0 : x : 1 = 2 : x : 2 : 0 : 3 = -1/7"):
            self.assertEqual(broken_text(broken_of(text)), text)
        self.assertEqual(broken_text(Broken((0, 1, 2), (X, X + 1), (0, 2, 3))), "0 : x : 1 : 1 + x : 2")
        self.assertEqual(broken_text(Broken((0, 1, 2), (X, X + 1), (0, 1, 3))), "0 : x : 1 = 1 : 1 + x : 2")
        self.assertEqual(broken_text(Broken((0, 1, 2), (X + 5, X), (5, 6, 2))), "0 : 5 + x : 1 : x : 2")
        self.assertEqual(broken_text(Broken(((2, 4), [6, 4]), (Poly(()),), ([0, 3], (1, 1)))), "1/2 : 0 : 3/2 = 1")
        self.assertEqual(broken_text(broken_of("  0=0:x+0:1=1:2-x  :2 = 0")), "0 : x : 1 : 2 - x : 2")

    def test_all_knots_are_told_just_as_they_are(self):
        f = Broken((0, 1, 2), (X, X), (0, 1, 2))
        self.assertEqual(broken_text(f), "0 : x : 1 : x : 2")

    def test_there_and_back(self):
        for f in some_functions(8, 60):
            text = broken_text(f)
            self.assertEqual(broken_of(text), f)
            self.assertEqual(broken_text(broken_of(text)), text)


if __name__ == "__main__":
    unittest.main()
