"""[58] and [59]: texts of items and of promises, and the first wrong place in them."""

import random
import re
import unittest
from fractions import Fraction

from helpers import ANY_VALUES, check_error, pair
from test_broken import some_functions
from test_texts import KNOT, POLY, RATIO
from toldmeans.broken import Broken
from toldmeans.desk import Desk
from toldmeans.errors import BadLine, BadName, BadText, NoName
from toldmeans.polys import Poly
from toldmeans.shares import Told
from toldmeans.texts import broken_text

WORDS = ("x", "function", "told", "from", "to", "at", "least", "most", "some", "share", "fits", "says", "nothing", "order",
         "over", "under")

# The grammars once more, as patterns for whole lines and promises.
NAME = rf"(?!(?:{'|'.join(WORDS)})(?![a-z0-9]))[a-z][a-z0-9]{{0,7}}(?![a-z0-9])"
TEXT = f"{KNOT}(?: *: *{POLY} *: *{KNOT})+"
BOUNDS = f"(?:at +(?:least|most) +{RATIO}|from +{RATIO} +to +{RATIO})"
LINE = re.compile(f" *(?:function +{NAME}|told +{NAME} +{BOUNDS}) *= *{TEXT} *")
PROMISE = re.compile(f" *(?:some +share +fits|{NAME} +at +(?:most|least) +{RATIO}|{NAME} +says +nothing|"
                     f"order +{RATIO} +over +{RATIO} +under +{RATIO} +at +most +{RATIO}) *")


def ends_of(samples):
    """What makes right texts of beginnings: the ends of some right texts, perhaps behind what ends a number or a
    power that is not whole yet."""
    found = {""}
    for sample in samples:
        found = found | {sample[k:] for k in range(len(sample))}
    return sorted(one + end for end in found for one in ("", "0", "1", "x", "^1", "a"))


LINE_ENDS = ends_of(("function a=0:0:0", "told a at least 0=0:0:0", "told a at most 0=0:0:0:0:0", "told a from 0 to 0=0:0:0"))
PROMISE_ENDS = ends_of(("some share fits", "a at most 0", "a at least 0", "a says nothing",
                        "order 0 over 0 under 0 at most 0"))


def wrong_column(text, pattern, ends):
    """None for a right text, otherwise the column of its error, by the grammar alone."""
    if pattern.fullmatch(text):
        return None
    right, wrong = -1, len(text) + 1
    while wrong - right > 1:
        many = (right + wrong) // 2
        if any(pattern.fullmatch(text[:many] + end) for end in ends):
            right = many
        else:
            wrong = many
    return right + 1


LINES = ("function f = 0 : x : 1", "told n at least 1/2 = 0 : x : 1", "told n at most -1/2=0:x-1:1",
         "told abcdefgh from -3 to 7/2 = -1 = -1 : 1 - 2*x^10 : 0 = 1 : 1 + 3/7*x : 22", "  function  f1  =  0:1:1  ",
         "told xx from 0 to 0 = 0:0:1", "function functio = 0 : x^2 + 1/3*x^3 : 9/2", "told nothin at least 0 = 0:0:1",
         "function told1 = 0 : - x : 1")
PROMISES = ("some share fits", "f at most 3", "  f1   at  least  -1/2 ", "abcdefgh says nothing",
            "order 1/2 over 3 under 1/7 at most 100", "order -3 over 1 under 1 at most -0", "some1 at most 2",
            "order1 says nothing", "xx at least 0/7")


def changed(source, text):
    """A text with some characters changed."""
    for _ in range(source.randint(1, 2)):
        at = source.randint(0, len(text))
        sign = source.choice(" =:/-+*^x0129aftomosabcz.,X\t")
        text = source.choice((text[:at] + sign + text[at:], text[:at] + sign + text[at + 1:], text[:at] + text[at + 1:],
                              text[:at]))
    return text


class ItemTest(unittest.TestCase):
    def check_wrong(self, text, line, column):
        check_error(self, BadLine, {"line": line, "column": column}, Desk, text)
        desk = Desk("function keep = 0:1:1")
        check_error(self, BadLine, {"line": line, "column": column}, desk.put, text)
        self.assertEqual(desk.names(), ("keep",))
        check_error(self, BadLine, {"line": line + 2, "column": column}, Desk, "\nfunction zz = 0:0:1\n" + text)

    def test_right_lines(self):
        for line in LINES:
            self.assertIsNone(wrong_column(line, LINE, LINE_ENDS), line)
            desk = Desk(line)
            self.assertEqual(len(desk.names()), 1)
            self.assertEqual(Desk(line + "\n").lines(), desk.lines())
            self.assertEqual(Desk(desk.lines()).lines(), desk.lines())

    def test_what_items_are(self):
        desk = Desk("function f = 0 : x : 1 = 5\n\n   \n told n at least 1/2 = 0 : x : 1\ntold m at most 4/8 = 0 : x : 1\n"
                    "  told b from -1 to 2/2=0:x:1")
        x = Broken((0, 1), (Poly((0, 1)),), (0, 1))
        self.assertEqual(desk.names(), ("f", "n", "m", "b"))
        self.assertEqual(desk.get("f"), Broken((0, 1), (Poly((0, 1)),), (0, 5)))
        for name, least, most in (("n", (1, 2), None), ("m", None, (1, 2)), ("b", (-1, 1), (1, 1))):
            told = desk.get(name)
            self.assertIs(told.__class__, Told)
            self.assertEqual((told.function, told.least, told.most), (x, least, most))
        self.assertEqual(desk.lines(), "function f = 0 : x : 1 = 5\ntold n at least 1/2 = 0 : x : 1\n"
                                       "told m at most 1/2 = 0 : x : 1\ntold b from -1 to 1 = 0 : x : 1\n")

    def test_functions_of_all_sorts_there_and_back(self):
        for f in some_functions(1, 30, 4):
            desk = Desk(f"function f = {broken_text(f)}")
            self.assertEqual(desk.get("f"), f)
            self.assertEqual(desk.lines(), f"function f = {broken_text(f)}\n")

    def test_texts_that_mean_nothing(self):
        for text in ("", "\n", "   ", "\n\n  \n", " \n \n"):
            self.assertEqual(Desk(text).names(), ())
            self.assertEqual(Desk(text).lines(), "")
        self.assertEqual(Desk().names(), ())

    def test_what_is_no_string(self):
        for value in ANY_VALUES:
            if not isinstance(value, str):
                check_error(self, BadLine, {"line": 0, "column": 0}, Desk, value)
                check_error(self, BadLine, {"line": 0, "column": 0}, Desk().put, value)
        self.assertEqual(Desk(text="function f = 0:0:1").names(), ("f",))

    def test_each_beginning_of_a_right_line(self):
        for line in LINES:
            for many in range(len(line)):
                wanted = wrong_column(line[:many], LINE, LINE_ENDS)
                if wanted is not None and line[:many].strip(" "):
                    self.assertEqual(wanted, many + 1, line[:many])
                    self.check_wrong(line[:many], 1, wanted)

    def test_each_character_wrong(self):
        for line in LINES:
            for at in range(len(line) + 1):
                for sign in "!Z\t=":
                    text = line[:at] + sign + line[at:]
                    wanted = wrong_column(text, LINE, LINE_ENDS)
                    if wanted is not None:
                        self.check_wrong(text, 1, wanted)

    def test_many_wrong_lines(self):
        source = random.Random(2)
        counts = [0, 0]
        for _ in range(2500):
            text = changed(source, source.choice(LINES))
            wanted = wrong_column(text, LINE, LINE_ENDS)
            if text.strip(" ") == "":
                continue
            counts[wanted is None] += 1
            if wanted is not None:
                check_error(self, BadLine, {"line": 1, "column": wanted}, Desk, text)
                continue
            try:
                Desk(text)
            except BadLine as error:
                # A right line, but its knots do not ascend, or its Told is none.
                self.assertIn(error.column, (text.index("=") + 2, len(text) + 1))
        self.assertGreater(min(counts), 200)

    def test_names(self):
        for name in ("a", "a1", "abcdefgh", "z9999999", "functio", "functio1", "funct", "told1", "xx", "x1", "nothing1", "orde",
                     "orders", "tolds", "somex", "share0"):
            self.assertEqual(Desk(f"function {name} = 0:0:1").names(), (name,))
        for name, column in (("function", 17), ("functionx", 17), ("function99", 17), ("abcdefghi", 18), ("abcdefgh1234", 18),
                             ("x", 11), ("told", 14), ("from", 14), ("to", 12), ("at", 12), ("least", 15), ("most", 14),
                             ("some", 14), ("share", 15), ("fits", 14), ("says", 14), ("nothing", 17), ("order", 15),
                             ("over", 14), ("under", 15), ("1a", 10), ("A", 10), ("aB", 11), ("a_b", 11), ("-", 10)):
            self.check_wrong(f"function {name} = 0:0:1", 1, column)
        self.check_wrong("function x", 1, 11)
        self.check_wrong("function told", 1, 14)

    def test_names_that_are_told_already(self):
        first = "function f = 0:0:1\n"
        for line, column in (("function f = 0:0:1", 10), ("told f at most 1 = 0:0:1", 6), ("  function   f = 0:0:1", 14),
                             ("function f", 10), ("function f !", 10), ("function f = 0:zz", 10), ("told f from", 6),
                             ("function f = 1:0:0", 10), ("told f at least 5 = 0 = -7:0:1", 6), ("functio f", 8),
                             ("function f!", 10), ("told  f at", 7)):
            check_error(self, BadLine, {"line": 2, "column": column}, Desk, first + line)
            check_error(self, BadLine, {"line": 3, "column": column}, Desk, first + "\n" + line + "\nzz\n")
        self.assertEqual(Desk(first + "function ff = 0:0:1\nfunction f1 = 0:0:1").names(), ("f", "ff", "f1"))
        full = "function abcdefgh = 0:0:1\n"
        check_error(self, BadLine, {"line": 2, "column": 10}, Desk, full + "function abcdefgh = 0:0:1")
        check_error(self, BadLine, {"line": 2, "column": 18}, Desk, full + "function abcdefghi = 0:0:1")
        # A name at a desk is no name of the text.
        desk = Desk(first)
        desk.put("told f at most 1 = 0:0:1")
        self.assertEqual(desk.names(), ("f",))

    def test_knots_that_do_not_ascend(self):
        for line, column in (("function f = 1 : x : 1", 13), ("function f=1:x:0", 12), ("  function  f  =  0 : x : 1 : x : 1/2", 17),
                             ("told n at least 1/2 = 2/4 : x : 1/2", 22), ("told n from 0 to 1=1=1:x:0", 20),
                             ("told n at most 1 = 0 = 9 : x : 0", 19)):
            self.check_wrong(line, 1, column)
        # A sign that is wrong further on counts ahead.
        self.check_wrong("function f = 1 : x : 0 x", 1, 24)
        self.check_wrong("function f = 1 : x : 0 : ", 1, 26)

    def test_a_told_that_is_none(self):
        for line in ("told n at least 1 = 0 = -5 : 0 : 1", "told n at most 1 = 0 = 5 : 0 : 1", "told n from 2 to 1 = 0 : x : 1",
                     "told n from 0 to 1 = 0 = 5 : 0 : 1", "told n at most 1 = 0 : x : 1 = 2 : x : 3  ",
                     "told n at most 1 = 0 : x : 1 = 0 : 2 : 3 = 7"):
            self.check_wrong(line, 1, len(line) + 1)
        self.assertEqual(Desk("told n at least 1 = 0 = 5 : 0 : 1").names(), ("n",))
        self.assertEqual(Desk("told n at most 1 = 0 = -5 : 0 : 1").names(), ("n",))

    def test_the_first_wrong_line(self):
        check_error(self, BadLine, {"line": 2, "column": 1}, Desk, "function f = 0:0:1\nzz\nfunction f = 0:0:1")
        check_error(self, BadLine, {"line": 4, "column": 3}, Desk, "\n \nfunction f = 0:0:1\n  zz")
        check_error(self, BadLine, {"line": 1, "column": 13}, Desk, "function f = 0 : 0 : 0\nzz")

    def test_long_numbers(self):
        most = "9" * 30
        desk = Desk(f"told n at least -{most}/{most[1:]} = 0 : {most} : 1")
        self.assertEqual(desk.get("n").least, pair(Fraction(-int(most), int(most[1:]))))
        self.check_wrong(f"told n at least {most}9 = 0:0:1", 1, 47)
        self.check_wrong("told n at least 1/0 = 0:0:1", 1, 19)
        self.check_wrong("told n at least 01 = 0:0:1", 1, 18)


class PromiseTest(unittest.TestCase):
    def asked(self, text):
        """The error of a promise, or None."""
        desk = Desk("function keep = 0:1:1")
        try:
            desk.kept(text)
        except (BadText, NoName) as error:
            return error
        except Exception:
            return None
        return None

    def check_wrong(self, text, column):
        desk = Desk("told n at least 0 = 0:1:1\nfunction f = 0:x:1")
        for call in (desk.kept, desk.keep, lambda promise: desk.attempt(lambda tried: tried.keep(promise))):
            check_error(self, BadText, {"column": column}, call, text)
        self.assertEqual(desk.promises(), ())

    def test_right_promises(self):
        for text in PROMISES:
            self.assertIsNone(wrong_column(text, PROMISE, PROMISE_ENDS), text)
            self.assertNotIsInstance(self.asked(text), BadText)

    def test_each_beginning_and_each_character(self):
        for text in PROMISES:
            for at in range(len(text) + 1):
                for sign in ("", "!", "Z", "\n", "\t"):
                    wrong = text[:at] + sign + (text[at:] if sign else "")
                    wanted = wrong_column(wrong, PROMISE, PROMISE_ENDS)
                    if wanted is not None:
                        self.check_wrong(wrong, wanted)

    def test_many_wrong_promises(self):
        source = random.Random(3)
        counts = [0, 0]
        for _ in range(3000):
            text = changed(source, source.choice(PROMISES))
            wanted = wrong_column(text, PROMISE, PROMISE_ENDS)
            counts[wanted is None] += 1
            if wanted is None:
                self.assertNotIsInstance(self.asked(text), BadText, text)
            else:
                check_error(self, BadText, {"column": wanted}, Desk().kept, text)
        self.assertGreater(min(counts), 200)

    def test_known_columns(self):
        for text, column in (("", 1), ("   ", 4), ("f", 2), ("some", 5), ("some ", 6), ("somex", 6), ("order", 6), ("orders", 7),
                             ("x at most 3", 2), ("told at most 3", 5), ("function at most 3", 8), ("functionx", 8),
                             ("abcdefghi at most 3", 9), ("f at most", 10), ("f at most 3 4", 13), ("f at most 3/0", 13),
                             ("f at mist 3", 7), ("f is 3", 3), ("F at most 3", 1), ("some shares fit", 11),
                             ("order 1 over 2 under 3 at least 4", 27), ("order x over", 7), ("n says nothing at all", 16),
                             ("f at most -", 12), ("f at most - 3", 12), ("f at most 3.5", 12), ("some\n", 5)):
            self.check_wrong(text, column)

    def test_what_is_no_string(self):
        for value in ANY_VALUES:
            if not isinstance(value, str):
                desk = Desk("told n at least 0 = 0:1:1")
                for call in (desk.kept, desk.keep):
                    check_error(self, BadText, {"column": 0}, call, value)

    def test_names_that_are_none(self):
        desk = Desk("function f = 0:0:1")
        for value in ANY_VALUES + WORDS + ("", "F", "a b", "abcdefghi", "functionx", "1a", "a_", " a", "a ", "a\n"):
            check_error(self, BadName, {"name": value}, desk.rename, "f", value)
            check_error(self, BadName, {"name": value}, desk.rename, None, value)


if __name__ == "__main__":
    unittest.main()
