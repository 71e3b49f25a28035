"""[58] to [63]: the desk, its edits, promises, attempts and trials, with the conventions of [2]."""

import random
import unittest
from fractions import Fraction

from helpers import ANY_VALUES, check_error, fraction, picture
from toldmeans.broken import Broken, scaled
from toldmeans.desk import Desk
from toldmeans.errors import (BadInterval, BadLine, BadName, BadNumber, BadText, NoName, NotKept, NothingToRedo,
                              NothingToUndo, TakenName, Unlike)
from toldmeans.lines import Bottom, NoShare, Top, is_bottom, is_top, line_greatest
from toldmeans.means import Above, Barred, is_above, is_any_fit
from toldmeans.orders import cost_line
from toldmeans.polys import Poly
from toldmeans.shares import Told

TEXT = """function f = 0 : x : 1
told n from 1/4 to 1/2 = 0 : x : 1
function g = 0 : x^2 : 1
told m at least 1/8 = 0 : 0 : 3/4 : 1 : 1
"""


class Stop(Exception):
    pass


def seen(desk):
    """All that a desk tells of itself."""
    return desk.lines(), desk.names(), desk.promises()


class Case(unittest.TestCase):
    def check_refused(self, desk, error_class, fields, call, *arguments):
        """That a call raises just this error, and changes nothing of the desk, nor of what can be undone."""
        before = seen(desk)
        check_error(self, error_class, fields, call, *arguments)
        self.assertEqual(seen(desk), before)
        told = []

        def look(tried):
            told.append(seen(tried))

        desk.trial(look)
        self.assertEqual(told, [before])

    def check_not_kept(self, call, promise, *arguments):
        with self.assertRaises(NotKept) as held:
            call(*arguments)
        self.assertEqual(held.exception.promise, promise)
        self.assertEqual(list(vars(held.exception)), ["promise", "witness"])
        return held.exception.witness


class ItemsTest(Case):
    def test_put_drop_and_rename(self):
        desk = Desk(TEXT)
        self.assertEqual(desk.names(), ("f", "n", "g", "m"))
        self.assertEqual(desk.lines(), TEXT)
        self.assertIsNone(desk.put("told g at most 2 = 0 : x : 1\nfunction h = 0 : 1 : 1\nfunction n = 0 : 2 : 1"))
        self.assertEqual(desk.names(), ("f", "n", "g", "m", "h"))
        self.assertEqual(desk.get("n"), Broken((0, 1), (Poly((2,)),), (2, 2)))
        self.assertIs(desk.get("g").__class__, Told)
        self.assertIsNone(desk.drop("f"))
        self.assertEqual(desk.names(), ("n", "g", "m", "h"))
        self.assertIsNone(desk.rename("g", "abcdefgh"))
        self.assertEqual(desk.names(), ("n", "abcdefgh", "m", "h"))
        self.assertEqual(desk.get("abcdefgh").most, (2, 1))
        self.assertIsNone(desk.put(""))
        self.assertEqual(desk.names(), ("n", "abcdefgh", "m", "h"))

    def test_an_empty_desk(self):
        desk = Desk()
        self.assertEqual(seen(desk), ("", (), ()))
        self.assertEqual(desk.broken(), ())
        check_error(self, NothingToUndo, {}, desk.undo)
        check_error(self, NothingToRedo, {}, desk.redo)
        for promise in ("some share fits", "order 1 over 1 under 1 at most 1"):
            check_error(self, Unlike, {"what": "rows"}, desk.kept, promise)
            check_error(self, Unlike, {"what": "rows"}, desk.keep, promise)
        desk.put("function f = 0 : x : 1")
        for promise in ("some share fits", "order 1 over 1 under 1 at most 1"):
            check_error(self, Unlike, {"what": "rows"}, desk.kept, promise)
        self.assertEqual(desk.kept("f at most 1"), (True, None))

    def test_names_that_no_item_has(self):
        desk = Desk(TEXT)
        for value in ANY_VALUES + ("h", "F", "f ", "ff", ("f",), ["f"], b"f"):
            for call in (desk.drop, desk.get):
                self.check_refused(desk, NoName, {"name": value}, call, value)
            self.check_refused(desk, NoName, {"name": value}, desk.rename, value, "new")
            self.check_refused(desk, NoName, {"name": value}, desk.rename, value, "f")
        for new in ("f", "n", "g", "m"):
            self.check_refused(desk, TakenName, {"name": new}, desk.rename, "f", new)
        self.check_refused(desk, BadName, {"name": "x"}, desk.rename, "h", "x")

    def test_a_put_that_is_wrong(self):
        desk = Desk(TEXT)
        self.check_refused(desk, BadLine, {"line": 2, "column": 1}, desk.put, "function a = 0:0:1\nzz")
        for value in ANY_VALUES:
            if not isinstance(value, str):
                self.check_refused(desk, BadLine, {"line": 0, "column": 0}, desk.put, value)


class PromisesTest(Case):
    def rows(self, desk):
        return [desk.get(name) for name in desk.names() if isinstance(desk.get(name), Told)]

    def test_lines(self):
        desk = Desk("function f = 0 : 2*x : 1\ntold n from 1/4 to 1/2 = 0 : x : 1")
        rows, f = self.rows(desk), desk.get("f")
        for promise, wanted in (("f at most 1", True), ("f at most 99/100", False), ("f at most 2", True),
                                ("f at least 1/2", True), ("f at least 51/100", False), ("f at least -7", True)):
            right, witness = desk.kept(promise)
            self.assertIs(right, wanted)
            if wanted:
                self.assertIsNone(witness)
            elif "most" in promise:
                self.assertIs(witness.__class__, Top)
                self.assertTrue(is_top(rows, f, witness))
            else:
                self.assertIs(witness.__class__, Bottom)
                self.assertTrue(is_bottom(rows, f, witness))
        desk.put("told m at least 3/4 = 0 : x : 1")
        self.assertEqual(desk.kept("f at most -99"), (True, None))
        self.assertEqual(desk.kept("f at least 99"), (True, None))

    def test_functions_that_are_no_lines(self):
        for text in ("function f = 0 : x^2 : 1\ntold n from 1/4 to 1/2 = 0 : x : 1",
                     "function f = 0 : x : 1\ntold n from 1/16 to 1/2 = 0 : x^2 : 1\ntold m from 1/4 to 1/2 = 0 : x : 1"):
            desk = Desk(text)
            rows, f = self.rows(desk), desk.get("f")
            for promise, wanted in (("f at most 501/1000", True), ("f at most 1/8", False), ("f at least 1/17", True),
                                    ("f at least 9/10", False)):
                right, witness = desk.kept(promise)
                self.assertIs(right, wanted, (text, promise))
                if wanted:
                    self.assertIsNone(witness)
                else:
                    self.assertIs(witness.__class__, Above)
                    self.assertTrue(is_above(f if "most" in promise else scaled(f, -1), rows, 12, witness))
            desk.put("told k at least 9/10 = 0 : x^2 : 1")
            self.assertEqual(desk.kept("f at most -99"), (True, None))
            self.assertEqual(desk.kept("f at least 99"), (True, None))

    def test_some_share_fits(self):
        for function in ("x", "x^2"):
            desk = Desk(f"told n from 1/4 to 1/2 = 0 : {function} : 1")
            self.assertEqual(desk.kept("some share fits"), (True, None))
            desk.put(f"told m at least 3/4 = 0 : {function} : 1")
            right, witness = desk.kept(" some   share fits ")
            self.assertIs(right, False)
            self.assertIs(witness.__class__, Barred)
            self.assertTrue(is_any_fit(self.rows(desk), 12, witness))

    def test_says_nothing(self):
        desk = Desk("told n from 1/4 to 1/2 = 0 : x : 1\ntold m at most 3/2 = 0 : 2*x : 1\ntold k at least 0 = 0 : x : 1")
        for promise, wanted in (("n says nothing", Top), ("m says nothing", None), ("k says nothing", None)):
            right, witness = desk.kept(promise)
            self.assertIs(right, wanted is None)
            self.assertIs(None if witness is None else witness.__class__, wanted)
        # The greatest mean counts ahead of the least one.
        self.assertEqual(desk.kept("n says nothing")[1].mean, (3, 4))
        desk.put("told n from 1/4 to 3/4 = 0 : x : 1")
        right, witness = desk.kept("n says nothing")
        self.assertIs(witness.__class__, Bottom)
        self.assertEqual(witness.mean, (0, 1))
        desk.put("told m from 1/2 to 3/2 = 0 : 2*x : 1")
        self.assertEqual(desk.kept("n says nothing"), (True, None))
        self.assertEqual(desk.kept("m says nothing"), (True, None))
        desk.put("told k at least 2 = 0 : x : 1")
        self.assertEqual(desk.kept("n says nothing"), (True, None))
        self.assertIs(desk.kept("k says nothing")[1].__class__, Bottom)
        self.assertEqual(Desk("told a at most 1 = 0 : x : 1").kept("a says nothing"), (True, None))
        # An upper function has only a least, so only its least mean could be asked for, and is not of its kind.
        desk = Desk("told a at least 0 = 0 : 0 : 1/2 : 1 : 1\ntold b at most 1 = 0 : 0 : 1/2 = 0 : 1 : 1")
        for name in "ab":
            self.check_refused(desk, Unlike, {"what": "kind"}, desk.kept, f"{name} says nothing")
            self.check_refused(desk, Unlike, {"what": "kind"}, desk.keep, f"{name} says nothing")

    def test_orders(self):
        desk = Desk("told n from 1/4 to 1/4 = 0 : x : 1")
        for promise, wanted in (("order 0 over 3 under 1 at most 1/4", True), ("order 0 over 3 under 1 at most 6/25", False),
                                ("order 1 over 2/2 under 7 at most 3/4", True), ("order 1/2 over 1 under 3 at most 3/4", True),
                                ("order 1/2 over 1 under 3 at most 74/100", False)):
            right, witness = desk.kept(promise)
            self.assertIs(right, wanted, promise)
            self.assertIs(None if wanted else Top, None if witness is None else witness.__class__)
        line = cost_line(0, 1, (1, 2), 1, 3)
        self.assertTrue(is_top(self.rows(desk), line, desk.kept("order 1/2 over 1 under 3 at most 0")[1]))
        desk.put("told m at least 3/4 = 0 : x : 1")
        self.assertEqual(desk.kept("order 1/2 over 1 under 3 at most -9"), (True, None))

    def test_errors_of_what_is_asked(self):
        desk = Desk(TEXT + "function far = 0 : x : 2\nfunction up = 0 : 0 : 1/2 : 1 : 1\nfunction low = 0 : 0 : 1/2 = 0 : 1 : 1\n"
                    "function none = 0 : 0 : 1/2 = 1/2 : 1 : 1")
        for promise, error_class, fields in (
                ("h at most 1", NoName, {"name": "h"}), ("n at most 1", NoName, {"name": "n"}),
                ("n at least 1", NoName, {"name": "n"}), ("f says nothing", NoName, {"name": "f"}),
                ("far at most 1", Unlike, {"what": "stretch"}), ("far at least 1", Unlike, {"what": "stretch"}),
                ("low at most 1", Unlike, {"what": "kind"}), ("up at least 1", Unlike, {"what": "kind"}),
                ("none at most 1", Unlike, {"what": "kind"}), ("none at least 1", Unlike, {"what": "kind"})):
            for call in (desk.kept, desk.keep):
                self.check_refused(desk, error_class, fields, call, promise)
        for promise, what, number in (("order 2 over 1 under 1 at most 1", "order", (2, 1)),
                                      ("order -2/4 over 1 under 1 at most 1", "order", (-1, 2)),
                                      ("order 9 over 0 under 0 at most 1", "over", (0, 1)),
                                      ("order 9 over -6/4 under 0 at most 1", "over", (-3, 2)),
                                      ("order 9 over 4/2 under -0/7 at most 1", "under", (0, 1))):
            for call in (desk.kept, desk.keep):
                with self.assertRaises(BadNumber) as held:
                    call(promise)
                self.assertEqual((held.exception.what, held.exception.number), (what, number))
        desk.put("told sq at least 0 = 0 : x^2 : 1")
        check_error(self, BadNumber, {"what": "degree", "number": 2}, desk.kept, "order 1 over 1 under 1 at most 1")
        check_error(self, BadNumber, {"what": "degree", "number": 2}, desk.kept, "sq says nothing")
        check_error(self, BadNumber, {"what": "degree", "number": 2}, desk.kept, "n says nothing")
        desk.put("told z at least 0 = 0 : x : 2")
        for promise in ("some share fits", "f at most 1", "g at least 0", "n says nothing", "order 1 over 1 under 1 at most 1"):
            check_error(self, Unlike, {"what": "stretch"}, desk.kept, promise)
        self.assertFalse(issubclass(BadInterval, BadNumber))

    def test_keep_and_release(self):
        desk = Desk(TEXT)
        self.assertIsNone(desk.keep("f at most 1/2"))
        self.assertIsNone(desk.keep(" f  at most 1/2"))
        self.assertIsNone(desk.keep("f at most 1/2"))
        self.assertEqual(desk.promises(), ("f at most 1/2", " f  at most 1/2"))
        witness = self.check_not_kept(desk.keep, "f at most 2/5", "f at most 2/5")
        self.assertEqual(witness.mean, (1, 2))
        self.assertEqual(desk.promises(), ("f at most 1/2", " f  at most 1/2"))
        for value in ANY_VALUES + ("f at most 1", "f at most  1/2", "zz", "some share fits", ("f at most 1/2",)):
            self.check_refused(desk, NoName, {"name": value}, desk.release, value)
        self.assertIsNone(desk.release("f at most 1/2"))
        self.assertEqual(desk.promises(), (" f  at most 1/2",))
        self.check_refused(desk, NoName, {"name": "f at most 1/2"}, desk.release, "f at most 1/2")

    def test_edits_keep_promises(self):
        desk = Desk(TEXT)
        for promise in ("f at most 1/2", "some share fits", "g at most 9/10"):
            desk.keep(promise)
        before = seen(desk)
        witness = self.check_not_kept(desk.put, "f at most 1/2", "told n from 1/4 to 3/4 = 0 : x : 1")
        self.assertEqual(witness.mean, (3, 4))
        self.assertEqual(seen(desk), before)
        self.check_not_kept(desk.drop, "f at most 1/2", "n")
        self.assertEqual(seen(desk), before)
        # The first promise counts, be it that it can no longer be asked or that it is not kept.
        desk.release("f at most 1/2")
        desk.keep("f at most 1/2")
        self.assertEqual(desk.promises(), ("some share fits", "g at most 9/10", "f at most 1/2"))
        self.check_refused(desk, NoName, {"name": "f"}, desk.put, "told f at most 1 = 0 : x : 1")
        with self.assertRaises(NoName) as held:
            desk.put("told f at most 1 = 0 : x : 1\ntold n from 1/4 to 3/4 = 0 : x : 1\n")
        self.assertEqual(held.exception.name, "f")
        witness = self.check_not_kept(desk.put, "some share fits",
                                      "told f at most 1 = 0 : x : 1\ntold n from 2 to 3 = 0 : x : 1")
        self.assertIs(witness.__class__, Barred)
        with self.assertRaises(Unlike) as held:
            desk.put("function g = 0 : x^2 : 2")
        self.assertEqual(held.exception.what, "stretch")
        self.assertEqual(desk.promises(), ("some share fits", "g at most 9/10", "f at most 1/2"))
        desk.put("told n from 1/3 to 1/2 = 0 : x : 1")
        self.assertEqual(desk.broken(), ())

    def test_drop_releases_and_rename_renames(self):
        desk = Desk(TEXT + "function ff = 0 : x : 1\n")
        made = ("f at most 1/2", "ff at most 1/2", "some share fits", "  f  at  least   1/4  ", "order 1/3 over 1 under 2 at most 9")
        for promise in made[:4]:
            desk.keep(promise)
        desk.rename("f", "most1")
        self.assertEqual(desk.promises(), ("most1 at most 1/2", made[1], made[2], "  most1  at  least   1/4  "))
        desk.drop("most1")
        self.assertEqual(desk.promises(), (made[1], made[2]))
        desk.undo()
        desk.undo()
        self.assertEqual(desk.promises(), made[:4])
        desk.keep("f at most 7")
        desk.drop("ff")
        self.assertEqual(desk.promises(), (made[0], made[2], made[3], "f at most 7"))
        desk = Desk("told a at most 2 = 0 : x : 1\ntold b at most 1/2 = 0 : x : 1")
        desk.keep("a says nothing")
        desk.rename("a", "c")
        self.assertEqual(desk.promises(), ("c says nothing",))
        self.assertEqual(desk.kept("c says nothing"), (True, None))
        # Of whichever kind it is by then.
        def swap(tried):
            tried.put("function c = 0 : x : 1")
            self.assertEqual(tried.promises(), ("c says nothing",))
            tried.drop("c")
            self.assertEqual(tried.promises(), ())
        desk.attempt(swap)
        self.assertEqual(desk.promises(), ())

    def test_broken(self):
        desk = Desk(TEXT)
        for promise in ("f at most 1/2", "some share fits", "f at least 1/4"):
            desk.keep(promise)
        self.assertEqual(desk.broken(), ())
        with desk as tried:
            tried.put("told n from 1/8 to 3/4 = 0 : x : 1")
            found = tried.broken()
            self.assertIs(found.__class__, tuple)
            self.assertEqual([pair[0] for pair in found], ["f at most 1/2", "f at least 1/4"])
            self.assertEqual([pair.__class__ for pair in found], [tuple, tuple])
            self.assertEqual([found[0][1].mean, found[1][1].mean], [(3, 4), (1, 8)])
            tried.put("told f at most 1 = 0 : x : 1")
            check_error(self, NoName, {"name": "f"}, tried.broken)
        self.assertEqual(desk.broken(), ())


class UndoTest(Case):
    def test_undo_and_redo(self):
        desk = Desk(TEXT)
        states = [seen(desk)]
        for edit in (lambda: desk.put("function h = 0 : 1 : 1"), lambda: desk.keep("f at most 1/2"), lambda: desk.drop("g"),
                     lambda: desk.rename("f", "e"), lambda: desk.put(""), lambda: desk.keep("e at most 1/2"),
                     lambda: desk.release("e at most 1/2")):
            edit()
            states.append(seen(desk))
        for state in states[-2::-1]:
            self.assertIsNone(desk.undo())
            self.assertEqual(seen(desk), state)
        check_error(self, NothingToUndo, {}, desk.undo)
        for state in states[1:]:
            self.assertIsNone(desk.redo())
            self.assertEqual(seen(desk), state)
        check_error(self, NothingToRedo, {}, desk.redo)
        desk.undo()
        desk.undo()
        desk.put("")
        check_error(self, NothingToRedo, {}, desk.redo)
        desk.undo()
        self.assertEqual(seen(desk), states[-3])
        desk.redo()
        check_error(self, NothingToRedo, {}, desk.redo)

    def test_what_raises_is_no_edit(self):
        desk = Desk(TEXT)
        desk.put("function h = 0 : 1 : 1")
        desk.undo()
        for call, arguments in ((desk.put, ("zz",)), (desk.drop, ("h",)), (desk.rename, ("h", "a")), (desk.keep, ("zz",)),
                                (desk.release, ("zz",)), (desk.keep, ("f at most 0",))):
            with self.assertRaises(ValueError):
                call(*arguments)
        desk.redo()
        self.assertEqual(desk.names(), ("f", "n", "g", "m", "h"))

    def test_the_objects_stay_the_same(self):
        desk = Desk(TEXT)
        f, n = desk.get("f"), desk.get("n")
        before = picture((f, n))
        desk.rename("f", "a")
        desk.put("told n from 1/4 to 3/4 = 0 : x : 1")
        desk.undo()
        desk.undo()
        self.assertIs(desk.get("f"), f)
        self.assertEqual(picture((f, n)), before)


class AttemptTest(Case):
    def test_an_attempt_is_one_edit(self):
        desk = Desk(TEXT)
        desk.keep("f at most 1/2")
        before = seen(desk)

        def action(tried):
            self.assertIs(tried, desk)
            check_error(self, NothingToUndo, {}, tried.undo)
            check_error(self, NothingToRedo, {}, tried.redo)
            tried.drop("n")
            self.assertEqual(tried.kept("f at most 1/2")[0], False)
            tried.undo()
            self.assertEqual(seen(tried), before)
            tried.redo()
            tried.put("told k from 1/4 to 1/3 = 0 : x : 1")
            tried.put("function z = 0:0:1")
            tried.undo()
            return ["any", tried]

        self.assertEqual(desk.attempt(action), ["any", desk])
        self.assertEqual(desk.names(), ("f", "g", "m", "k"))
        check_error(self, NothingToRedo, {}, desk.redo)
        after = seen(desk)
        desk.undo()
        self.assertEqual(seen(desk), before)
        desk.redo()
        self.assertEqual(seen(desk), after)

    def test_an_attempt_that_does_nothing_is_an_edit(self):
        desk = Desk(TEXT)
        desk.put("function h = 0:0:1")
        desk.undo()
        self.assertIsNone(desk.attempt(lambda tried: None))
        check_error(self, NothingToRedo, {}, desk.redo)
        desk.undo()
        check_error(self, NothingToUndo, {}, desk.undo)
        desk.redo()
        self.assertEqual(desk.names(), ("f", "n", "g", "m"))

    def test_an_attempt_that_raises(self):
        desk = Desk(TEXT)
        desk.keep("f at most 1/2")
        desk.put("function h = 0:0:1")
        desk.undo()
        before = seen(desk)
        for error in (Stop("any"), ValueError("x"), KeyboardInterrupt(), NoName("q"), StopIteration()):
            def action(tried, error=error):
                tried.drop("n")
                tried.keep("g at most 1")
                raise error
            with self.assertRaises(error.__class__) as held:
                desk.attempt(action)
            self.assertIs(held.exception, error)
            self.assertEqual(seen(desk), before)
        desk.redo()
        self.assertEqual(desk.names()[-1], "h")
        desk.undo()
        desk.undo()
        self.assertEqual(desk.promises(), ())

    def test_promises_at_the_end_of_an_attempt(self):
        desk = Desk(TEXT)
        desk.keep("f at most 1/2")
        desk.put("function h = 0:0:1")
        desk.undo()
        before = seen(desk)
        witness = self.check_not_kept(desk.attempt, "f at most 1/2", lambda tried: tried.drop("n"))
        self.assertIs(witness.__class__, Top)
        self.assertEqual(seen(desk), before)
        self.check_not_kept(desk.attempt, "g at most 0", lambda tried: tried.keep("g at most 0"))
        self.check_refused(desk, NoName, {"name": "f"}, desk.attempt, lambda tried: tried.put("told f at most 1 = 0:x:1"))
        desk.redo()
        self.assertEqual(desk.names()[-1], "h")

    def test_within_an_attempt_promises_are_not_looked_at(self):
        desk = Desk(TEXT)
        desk.keep("f at most 1/2")

        def action(tried):
            tried.drop("n")
            tried.keep("f at most 1/4")
            check_error(self, NoName, {"name": "q"}, tried.keep, "q at most 1/4")
            check_error(self, BadText, {"column": 1}, tried.keep, "")
            self.assertEqual([promise for promise, _ in tried.broken()], ["f at most 1/2", "f at most 1/4"])
            inner = seen(tried)
            tried.attempt(lambda again: again.put("told n from 1/2 to 3/4 = 0:x:1"))
            tried.undo()
            self.assertEqual(seen(tried), inner)
            with self.assertRaises(Stop):
                tried.attempt(self.stop)
            self.assertEqual(seen(tried), inner)
            tried.put("told n from 1/8 to 1/4 = 0:x:1")

        desk.attempt(action)
        self.assertEqual(desk.promises(), ("f at most 1/2", "f at most 1/4"))
        self.assertEqual(desk.broken(), ())

    def stop(self, tried):
        tried.drop("f")
        raise Stop

    def test_attempts_within_one_another_know_their_own_edits(self):
        desk = Desk(TEXT)
        desk.put("function a = 0:0:1")

        def inner(tried):
            check_error(self, NothingToUndo, {}, tried.undo)
            check_error(self, NothingToRedo, {}, tried.redo)
            tried.put("function c = 0:0:1")
            tried.put("function d = 0:0:1")

        def outer(tried):
            tried.put("function b = 0:0:1")
            tried.put("function e = 0:0:1")
            tried.undo()
            tried.attempt(inner)
            check_error(self, NothingToRedo, {}, tried.redo)
            self.assertEqual(tried.names()[-3:], ("b", "c", "d"))
            tried.undo()
            self.assertEqual(tried.names()[-1], "b")
            tried.redo()

        desk.attempt(outer)
        self.assertEqual(desk.names()[-4:], ("a", "b", "c", "d"))
        desk.undo()
        self.assertEqual(desk.names()[-1], "a")
        desk.undo()
        self.assertEqual(desk.lines(), TEXT)


class TrialTest(Case):
    def test_a_trial_leaves_nothing(self):
        desk = Desk(TEXT)
        desk.keep("f at most 1/2")
        desk.put("function h = 0:0:1")
        desk.undo()
        before = seen(desk)

        def action(tried):
            self.assertIs(tried, desk)
            check_error(self, NothingToUndo, {}, tried.undo)
            check_error(self, NothingToRedo, {}, tried.redo)
            tried.drop("n")
            tried.keep("f at most 0")
            tried.attempt(lambda again: again.drop("m"))
            self.assertEqual(tried.names(), ("f", "g"))
            self.assertEqual(len(tried.broken()), 2)
            tried.undo()
            return 7

        self.assertEqual(desk.trial(action), 7)
        self.assertEqual(seen(desk), before)
        with desk as tried:
            self.assertEqual(action(tried), 7)
        self.assertEqual(seen(desk), before)
        desk.redo()
        self.assertEqual(desk.names()[-1], "h")
        desk.undo()
        desk.undo()
        check_error(self, NothingToUndo, {}, desk.undo)

    def test_a_trial_that_raises(self):
        desk = Desk(TEXT)
        desk.put("function h = 0:0:1")
        before = seen(desk)
        for error in (Stop("any"), KeyboardInterrupt(), NoName("q")):
            def action(tried, error=error):
                tried.drop("n")
                raise error
            with self.assertRaises(error.__class__) as held:
                desk.trial(action)
            self.assertIs(held.exception, error)
            self.assertEqual(seen(desk), before)
            with self.assertRaises(error.__class__) as held:
                with desk as tried:
                    action(tried)
            self.assertIs(held.exception, error)
            self.assertEqual(seen(desk), before)
        desk.undo()
        self.assertEqual(desk.lines(), TEXT)

    def test_trials_and_attempts_within_one_another(self):
        desk = Desk(TEXT)
        desk.keep("f at most 1/2")
        before = seen(desk)
        with desk as one:
            one.put("function a = 0:0:1")
            with one as two:
                check_error(self, NothingToUndo, {}, two.undo)
                two.put("function b = 0:0:1")
                # An attempt within a trial does not look at promises.
                two.attempt(lambda tried: tried.drop("n"))
                two.trial(lambda tried: tried.drop("f"))
                self.assertEqual(two.names(), ("f", "g", "m", "a", "b"))
                two.undo()
                two.undo()
                check_error(self, NothingToUndo, {}, two.undo)
                two.redo()
            self.assertEqual(one.names(), ("f", "n", "g", "m", "a"))
            one.undo()
            self.assertEqual(seen(one), before)
            one.redo()
            with self.assertRaises(Stop):
                with one:
                    one.drop("a")
                    with one:
                        one.drop("f")
                        raise Stop
            self.assertEqual(one.names(), ("f", "n", "g", "m", "a"))
        self.assertEqual(seen(desk), before)

        def action(tried):
            tried.put("function a = 0:0:1")
            with tried:
                tried.drop("a")
            tried.trial(lambda again: again.drop("g"))
            check_error(self, NothingToRedo, {}, tried.redo)

        desk.attempt(action)
        self.assertEqual(desk.names(), ("f", "n", "g", "m", "a"))
        desk.undo()
        self.assertEqual(seen(desk), before)


class Model:
    """A desk once more, as [60] and [61] tell it, by copies of all that it is."""

    def __init__(self):
        self.items = []
        self.made = []
        self.undone = []
        self.done = []

    def copy(self):
        return [list(self.items), list(self.made)]

    def back(self, copy):
        self.items, self.made = [list(part) for part in copy]


class ModelTest(Case):
    """Many edits in any order, by a desk and by a model of it."""

    def lines_of(self, model):
        return "".join(line + "\n" for _, line in model.items)

    def steps(self, source, desk, model, depth, many):
        for _ in range(many):
            self.step(source, desk, model, depth)
            self.assertEqual(desk.lines(), self.lines_of(model))
            self.assertEqual(desk.names(), tuple(name for name, _ in model.items))
            self.assertEqual(desk.promises(), tuple(model.made))

    def is_kept(self, lines, promise):
        return Desk(lines).kept(promise)[0]

    def edit(self, desk, model, depth, change, call):
        """An edit of both: the model looks at all promises by desks of their own."""
        before = model.copy()
        change(model)
        wanted = None
        if depth == 0:
            for promise in model.made:
                try:
                    if not self.is_kept(self.lines_of(model), promise):
                        wanted = NotKept
                except ValueError as error:
                    wanted = error.__class__
                if wanted is not None:
                    break
        if wanted is None:
            call()
            model.done.append(before)
            model.undone = []
        else:
            model.back(before)
            with self.assertRaises(wanted):
                call()

    def step(self, source, desk, model, depth):
        name = source.choice("abcd")
        names = [one for one, _ in model.items]
        pick = source.randint(0, 11)
        if pick < 4:
            line = source.choice((f"function {name} = 0 : x : 1", f"function {name} = 0 : 2*x : 1/2 : 1 : 1",
                                  f"told {name} from 1/4 to {source.choice(('1/2', '3/4'))} = 0 : x : 1",
                                  f"told {name} at least {source.choice(('1/8', '1'))} = 0 : 0 : 1/2 : 1 : 1"))

            def change(model):
                if name in names:
                    model.items[names.index(name)] = (name, line)
                else:
                    model.items.append((name, line))

            self.edit(desk, model, depth, change, lambda: desk.put(line))
        elif pick == 4 and name in names:
            def change(model):
                model.items = [item for item in model.items if item[0] != name]
                model.made = [promise for promise in model.made if not promise.startswith(name + " ")]

            self.edit(desk, model, depth, change, lambda: desk.drop(name))
        elif pick == 5 and name in names:
            new = source.choice("abcd")
            if new in names:
                check_error(self, TakenName, {"name": new}, desk.rename, name, new)
                return

            def change(model):
                model.items = [(new, line.replace(f" {name} ", f" {new} ", 1)) if one == name else (one, line)
                               for one, line in model.items]
                model.made = [new + promise[1:] if promise.startswith(name + " ") else promise for promise in model.made]

            self.edit(desk, model, depth, change, lambda: desk.rename(name, new))
        elif pick in (6, 7):
            promise = source.choice((f"{name} at most 1/2", f"{name} at most 2", f"{name} at least 1/4", "some share fits",
                                     f"{name} says nothing", "order 1/2 over 1 under 1 at most 1/3"))
            try:
                self.is_kept(self.lines_of(model), promise)
            except ValueError as error:
                with self.assertRaises(error.__class__):
                    desk.keep(promise)
                return

            def change(model):
                if promise not in model.made:
                    model.made.append(promise)

            self.edit(desk, model, depth, change, lambda: desk.keep(promise))
        elif pick == 8 and model.made:
            promise = source.choice(model.made)
            self.edit(desk, model, depth, lambda model: model.made.remove(promise), lambda: desk.release(promise))
        elif pick == 9:
            self.undo_or_redo(source, desk, model)
        elif pick > 9 and depth < 3:
            self.within(source, desk, model, depth)

    def undo_or_redo(self, source, desk, model):
        call, one, other, error_class = source.choice(((desk.undo, model.done, model.undone, NothingToUndo),
                                                       (desk.redo, model.undone, model.done, NothingToRedo)))
        if not one:
            check_error(self, error_class, {}, call)
            return
        call()
        other.append(model.copy())
        model.back(one.pop())

    def within(self, source, desk, model, depth):
        before, done, undone = model.copy(), model.done, model.undone
        model.done, model.undone = [], []
        raises, many = source.random() < 0.3, source.randint(0, 5)

        def action(tried):
            self.steps(source, tried, model, depth + 1, many)
            if raises:
                raise Stop

        kind = source.choice(("attempt", "trial", "with"))
        try:
            if kind == "attempt":
                desk.attempt(action)
            elif kind == "trial":
                desk.trial(action)
            else:
                with desk as tried:
                    action(tried)
            ended = True
        except (Stop, ValueError) as error:
            ended = False
            if isinstance(error, ValueError):
                self.assertEqual((kind, depth, raises), ("attempt", 0, False))
        model.done, model.undone = done, undone
        if kind == "attempt" and not raises:
            good = depth > 0 or all(self.holds(model, promise) for promise in model.made)
            self.assertIs(ended, good)
            if good:
                model.done.append(before)
                model.undone = []
                return
        model.back(before)

    def holds(self, model, promise):
        try:
            return self.is_kept(self.lines_of(model), promise)
        except ValueError:
            return False

    def test_many_edits(self):
        for seed in range(60):
            self.steps(random.Random(seed), Desk(), Model(), 0, 25)


class ValuesTest(Case):
    def test_a_desk_equals_itself_alone(self):
        desk = Desk(TEXT)
        self.assertTrue(desk == desk)
        self.assertFalse(desk == Desk(TEXT))

    def test_answers_are_those_of_the_parts(self):
        desk = Desk("function f = 0 : x : 2\ntold a from 1/3 to 1/2 = 0 : x : 1 : 2 - x : 2\n"
                    "told b at most 3/4 = 0 : 0 : 1 = 0 : 1 : 2")
        rows, f = [desk.get("a"), desk.get("b")], desk.get("f")
        top = line_greatest(rows, f)
        self.assertIsInstance(top, Top)
        limit = fraction(top.mean)
        self.assertEqual(desk.kept(f"f at most {limit}"), (True, None))
        self.assertIs(desk.kept(f"f at most {limit - Fraction(1, 10 ** 12)}")[0], False)
        self.assertNotIsInstance(top, NoShare)


if __name__ == "__main__":
    unittest.main()
