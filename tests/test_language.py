"""That the package's files keep those rules of LANGUAGE.md that a short look can see,
and that the interface stands where DOC.md lists it."""

import ast
import builtins
import re
import unittest
from pathlib import Path

PACKAGE = Path(__file__).resolve().parent.parent / "toldmeans"

LIBRARY = {
    "heapq": {"heappush", "heappop", "heapify", "heapreplace", "heappushpop"},
    "math": {"gcd", "lcm", "isqrt", "comb", "perm", "factorial"},
    "itertools": {"product", "combinations", "permutations", "chain", "accumulate", "pairwise", "islice",
                  "zip_longest"},
    "collections": {"defaultdict"},
}

BUILTINS = set("""len range enumerate zip min max sum abs sorted reversed int str bool list tuple dict set frozenset
    isinstance ord repr any all divmod pow map iter next getattr hasattr setattr Exception ValueError TypeError KeyError
    IndexError LookupError ZeroDivisionError ArithmeticError OverflowError RuntimeError NotImplementedError
    AttributeError StopIteration NotImplemented property staticmethod classmethod super""".split())

METHODS = set("""append clear copy count endswith extend find get index insert isalnum isalpha isdigit islower isspace
    isupper items join keys ljust lower lstrip partition pop remove replace reverse rfind rjust rpartition rsplit rstrip
    setdefault split splitlines startswith strip update upper values zfill bit_length add discard sort""".split())

BARRED = re.compile(r"\b(typing|enum|Enum|Generic|Protocol|ABC|namedtuple|NamedTuple|TypedDict|abstractmethod)\b|"
                    "dataclass|overload|contextmanager|_wall|_WallAttr")

MANGLED = {"__init__", "__eq__", "__repr__", "__str__", "__len__", "__enter__", "__exit__", "__call__", "__iter__",
           "__add__", "__radd__", "__sub__", "__rsub__", "__mul__", "__rmul__", "__neg__"}

INTERFACE = {
    "errors.py": {
        "MeanError": None, "BadText": ["column"], "BadLine": ["line", "column"], "BadNumber": ["what", "number"],
        "BadRow": ["row"], "BadInterval": ["low", "high"], "BadName": ["name"], "Unlike": ["what"], "NoName": ["name"],
        "TakenName": ["name"], "NotKept": ["promise", "witness"], "NothingToUndo": None, "NothingToRedo": None,
    },
    "ratios.py": {
        "is_ratio": ["value"], "told": ["value", "what"], "plus": ["one", "other"], "minus": ["one", "other"],
        "times": ["one", "other"], "share": ["one", "other"], "lower": ["one", "other"], "floor_of": ["value"],
        "ratio_text": ["value"],
    },
    "polys.py": {
        "Poly": ["numbers"], "divided": ["one", "other"], "common": ["one", "other"],
    },
    "sums.py": {
        "Reached": ["number", "spots", "weights"], "Endless": ["spots", "run"], "Nothing": ["weights"],
        "largest": ["rows", "right", "worth"], "is_largest": ["rows", "right", "worth", "told"],
    },
    "broken.py": {
        "Broken": ["knots", "polys", "at"], "constant": ["low", "high", "number"],
        "closed_step": ["low", "high", "one", "other"], "open_step": ["low", "high", "one", "other"],
        "total": ["one", "other"], "scaled": ["f", "by"], "joined": ["f"], "same": ["one", "other"],
        "greater": ["one", "other"], "shifted": ["f", "start", "step"],
    },
    "signs.py": {
        "Split": ["root", "rest", "cuts"], "Paper": ["splits"], "Below": ["place", "number"],
        "Floor": ["number", "paper", "place"], "never_below": ["f"], "is_paper": ["f", "told"], "least": ["f", "bits"],
    },
    "texts.py": {
        "poly_of": ["text"], "broken_of": ["text"], "poly_text": ["poly"], "broken_text": ["f"],
    },
    "shares.py": {
        "Share": ["places", "parts"], "Told": ["function", "least", "most"], "mean": ["share", "function"],
        "chance": ["share", "low", "high"], "chance_between": ["share", "low", "high"], "medians": ["share"],
        "mixed": ["shares", "parts"], "moved": ["share", "factor", "shift"], "missed": ["share", "rows"],
        "fits": ["share", "rows", "bits"],
    },
    "lines.py": {
        "Fitting": ["share"], "NoShare": ["number", "factors"], "Top": ["mean", "share", "number", "factors"],
        "Bottom": ["mean", "share", "number", "factors"], "Gain": ["number", "stakes", "share"], "line_fits": ["rows"],
        "is_line_answer": ["rows", "told"], "line_greatest": ["rows", "function"], "line_least": ["rows", "function"],
        "is_top": ["rows", "function", "told"], "is_bottom": ["rows", "function", "told"],
        "median": ["low", "high", "place"], "as_moves": ["rows", "index", "function"], "sure_gain": ["rows"],
        "is_gain": ["rows", "told"], "needless": ["rows"], "least_rows": ["rows"],
    },
    "means.py": {
        "Above": ["upper", "number", "factors", "paper", "share"], "Barred": ["number", "factors", "paper"],
        "Fits": ["share"], "greatest_mean": ["g", "rows", "bits"], "any_fit": ["rows", "bits"],
        "is_above": ["g", "rows", "bits", "told"], "is_any_fit": ["rows", "bits", "told"],
    },
    "shapes.py": {
        "Shape": ["word", "middle"], "Mixture": ["shape", "places", "parts"], "folded": ["f", "middle"],
        "ShapedAbove": ["upper", "number", "factors", "papers", "mixture"],
        "ShapedBarred": ["number", "factors", "papers"], "ShapedFits": ["mixture"], "area": ["f", "middle"],
        "mean_at": ["shape", "f", "place"], "served": ["shape", "f"], "mean_of": ["mixture", "f"],
        "as_share": ["mixture"], "greatest_shaped": ["g", "rows", "shape", "bits"],
        "any_shaped": ["rows", "shape", "bits"], "is_greatest_shaped": ["g", "rows", "shape", "bits", "told"],
        "is_any_shaped": ["rows", "shape", "bits", "told"],
    },
    "orders.py": {
        "Best": ["cost", "first", "last"], "Orders": ["cost", "order", "number", "factors", "share"],
        "NearOrder": ["order", "upper", "number", "factors", "papers", "share"],
        "cost_line": ["low", "high", "order", "over", "under"], "cost_of": ["share", "order", "over", "under"],
        "best_orders": ["share", "over", "under"], "least_worst": ["rows", "low", "high", "over", "under"],
        "best_stretch": ["rows", "low", "high", "over", "under"],
        "is_orders": ["rows", "low", "high", "over", "under", "told"],
        "near_order": ["rows", "low", "high", "over", "under", "bits"],
        "is_near_order": ["rows", "low", "high", "over", "under", "bits", "told"],
    },
    "news.py": {
        "MayBe": ["low", "high", "low_share", "high_share"], "Narrowed": ["low", "high", "lower", "upper"],
        "Fixed": ["number", "least", "greatest"], "Left": ["width", "value", "whole"], "may_be": ["rows", "function"],
        "narrowed": ["rows", "function", "question"], "width_left": ["rows", "function", "question"],
        "apart": ["rows", "others", "question"],
    },
    "desk.py": {
        "Desk": ["text"],
    },
}

METHODS_OF = {
    ("polys.py", "Poly"): {
        "__eq__": ["other"], "__add__": ["other"], "__radd__": ["other"], "__sub__": ["other"], "__rsub__": ["other"],
        "__mul__": ["other"], "__rmul__": ["other"], "__neg__": [], "degree": [], "at": ["place"], "slope": [],
        "area": [], "moved": ["start", "step"],
    },
    ("broken.py", "Broken"): {
        "__eq__": ["other"], "value": ["x"], "limits": ["x"], "is_plain": [], "is_upper": [], "is_lower": [],
        "is_line": [],
    },
    ("shares.py", "Share"): {"__eq__": ["other"]},
    ("shapes.py", "Shape"): {"__eq__": ["other"]},
    ("desk.py", "Desk"): {
        "__enter__": [], "__exit__": ["kind", "value", "trace"], "put": ["text"], "drop": ["name"],
        "rename": ["name", "new"], "keep": ["promise"], "release": ["promise"], "attempt": ["action"],
        "trial": ["action"], "undo": [], "redo": [], "lines": [], "names": [], "promises": [], "get": ["name"],
        "kept": ["promise"], "broken": [],
    },
}

# Attributes that LANGUAGE.md bars (L17, L26).
NO_ATTRIBUTES = set("""items keys values pop update append clear extend insert remove reverse setdefault sort args encode
    decode hex fromhex format format_map mro register elements open input law""".split())


def files():
    return sorted(path for path in PACKAGE.rglob("*") if path.is_file() and path.parent.name != "__pycache__")


def arguments_of(function):
    return [argument.arg for argument in function.args.args]


def methods_of(node):
    return {part.name: part for part in node.body if isinstance(part, ast.FunctionDef)}


class FilesTest(unittest.TestCase):
    def setUp(self):
        self.texts = {path: path.read_text(encoding="utf-8") for path in files()}
        self.trees = {path: ast.parse(text) for path, text in self.texts.items()}

    def nodes(self, *kinds):
        for path, tree in self.trees.items():
            for node in ast.walk(tree):
                if isinstance(node, kinds):
                    yield f"{path.name}:{getattr(node, 'lineno', 0)}", node

    def test_only_plain_files(self):
        for path in files():
            self.assertRegex(path.name, r"^[a-z_0-9]+\.py$")

    def test_characters_and_sizes(self):
        for path, text in self.texts.items():
            self.assertEqual(sorted(c for c in set(text) if c != "\n" and not " " <= c <= "~"), [], path.name)
            lines = text.splitlines()
            self.assertLessEqual(len(lines), 399, path.name)
            self.assertLessEqual(max(map(len, lines)), 120, path.name)
            self.assertIsNone(BARRED.search(text), path.name)
        for where, node in self.nodes(ast.FunctionDef):
            self.assertLessEqual(node.end_lineno - node.lineno + 1, 40, where)

    def test_imports(self):
        for where, node in self.nodes(ast.Import, ast.ImportFrom):
            self.assertIsInstance(node, ast.ImportFrom, where)
            self.assertEqual(node.level, 0, where)
            for alias in node.names:
                self.assertIsNone(alias.asname, where)
                if node.module in LIBRARY:
                    self.assertIn(alias.name, LIBRARY[node.module], where)
                else:
                    self.check_own_import(where, node.module, alias.name)

    def check_own_import(self, where, module, name):
        package, file = module.split(".")
        self.assertEqual(package, "toldmeans", where)
        tree = self.trees[PACKAGE / f"{file}.py"]
        told = [part.name for part in tree.body if isinstance(part, (ast.FunctionDef, ast.ClassDef))]
        told = told + [part.targets[0].id for part in tree.body if isinstance(part, ast.Assign)]
        self.assertIn(name, told, where)

    def test_no_circles(self):
        needs = {}
        for path, tree in self.trees.items():
            needs[f"toldmeans.{path.stem}"] = {node.module for node in tree.body if isinstance(node, ast.ImportFrom)}
        self.assertEqual(needs["toldmeans.__init__"], set())
        while needs:
            free = [name for name, used in needs.items() if not used & set(needs)]
            self.assertNotEqual(free, [], needs)
            for name in free:
                del needs[name]

    def test_module_level(self):
        allowed = (ast.ImportFrom, ast.FunctionDef, ast.ClassDef, ast.Assign)
        for path, tree in self.trees.items():
            self.assertIsNotNone(ast.get_docstring(tree), path.name)
            for part in tree.body[1:]:
                self.assertIsInstance(part, allowed, path.name)

    def test_statements_and_values(self):
        barred = (ast.Global, ast.AsyncFunctionDef, ast.Await, ast.Div, ast.MatMult, ast.Set, ast.TryStar)
        for where, node in self.nodes(*barred):
            self.fail(where)
        for where, node in self.nodes(ast.Constant):
            self.assertNotIsInstance(node.value, (float, complex), where)
            if isinstance(node.value, str):
                self.assertNotIn("%", node.value, where)
        for where, node in self.nodes(ast.BinOp):
            if isinstance(node.op, ast.Pow):
                self.assertIsInstance(node.right, ast.Constant, where)
                self.assertLessEqual(node.right.value, 64, where)
        for where, node in self.nodes(ast.Compare):
            if isinstance(node.ops[0], (ast.Is, ast.IsNot)):
                self.assertIsInstance(node.comparators[0], ast.Constant, where)

    def test_no_sum_of_unknown_kind_is_put_in_place(self):
        # Poly has reflected methods, so += takes literal integers alone.
        for where, node in self.nodes(ast.AugAssign):
            self.assertIsInstance(node.op, (ast.Add, ast.Sub), where)
            self.assertIsInstance(node.value, ast.Constant, where)

    def test_any_all_and_their_kin_take_lists(self):
        # Poly has an __eq__, so no generator expression goes straight into these.
        for where, node in self.nodes(ast.GeneratorExp):
            self.fail(where)

    def test_names(self):
        every = set(dir(builtins))
        for where, node in self.nodes(ast.Name):
            if node.id in every:
                self.assertIn(node.id, BUILTINS, where)
                self.assertIsInstance(node.ctx, ast.Load, where)
        for where, node in self.nodes(ast.arg):
            self.assertNotIn(node.arg, every, where)
        for where, node in self.nodes(ast.FunctionDef, ast.ClassDef):
            self.assertNotIn(node.name, every, where)
            if node.name.startswith("__"):
                self.assertIn(node.name, MANGLED, where)
            if isinstance(node, ast.FunctionDef):
                self.assertEqual(node.decorator_list, [], where)

    def test_no_name_of_a_file_is_given_another_meaning(self):
        for path, tree in self.trees.items():
            bound = {alias.name for node in tree.body if isinstance(node, ast.ImportFrom) for alias in node.names}
            own = {node.name for node in tree.body if isinstance(node, ast.ClassDef)}
            for node in ast.walk(tree):
                if isinstance(node, ast.Name) and isinstance(node.ctx, ast.Store):
                    self.assertNotIn(node.id, bound | own, f"{path.name}:{node.lineno}")
                if isinstance(node, ast.arg):
                    self.assertNotIn(node.arg, bound | own, f"{path.name}:{node.lineno}")

    def test_methods_that_are_called(self):
        own = set()
        for _, node in self.nodes(ast.ClassDef):
            own = own | set(methods_of(node))
        for where, node in self.nodes(ast.Call):
            if isinstance(node.func, ast.Attribute):
                self.assertIn(node.func.attr, METHODS | own, where)

    def test_nothing_is_read_off_a_class(self):
        # Poly has a method at, Broken an attribute of this name: so no method may be read off its class.
        own = {node.name for _, node in self.nodes(ast.ClassDef)}
        for where, node in self.nodes(ast.Attribute):
            if isinstance(node.value, ast.Name):
                self.assertNotIn(node.value.id, own, where)

    def test_what_is_iterated_is_not_kept(self):
        for where, node in self.nodes(ast.Assign, ast.Return):
            if isinstance(node.value, ast.Call) and isinstance(node.value.func, ast.Name):
                self.assertNotIn(node.value.func.id, ("zip", "enumerate", "reversed", "map"), where)

    def test_functions_of_the_library_are_only_called(self):
        names = set().union(*LIBRARY.values())
        called = {id(node.func) for _, node in self.nodes(ast.Call)}
        for where, node in self.nodes(ast.Name):
            if node.id in names:
                self.assertIn(id(node), called, where)
        for where, node in self.nodes(ast.Call):
            if isinstance(node.func, ast.Name) and node.func.id in names:
                self.assertEqual(node.keywords, [], where)
                self.assertEqual([part for part in node.args if isinstance(part, ast.Starred)], [], where)

    def test_attributes(self):
        own = set()
        for _, node in self.nodes(ast.ClassDef):
            own = own | set(methods_of(node))
        stored = set()
        for where, node in self.nodes(ast.Attribute):
            if isinstance(node.ctx, ast.Store):
                self.assertNotIn(node.attr, NO_ATTRIBUTES, where)
                stored.add(node.attr)
        for where, node in self.nodes(ast.Attribute):
            if isinstance(node.ctx, ast.Load):
                self.assertIn(node.attr, own | stored | METHODS, where)
        for where, node in self.nodes(ast.ClassDef):
            assigned = {part.attr for part in ast.walk(node) if isinstance(part, ast.Attribute)
                        and isinstance(part.ctx, ast.Store) and part.value.id == "self"}
            self.assertEqual(assigned & set(methods_of(node)), set(), where)

    def test_calls_of_own_names_pass_what_they_take(self):
        takes = {}
        for path, tree in self.trees.items():
            for node in tree.body:
                if isinstance(node, ast.FunctionDef):
                    takes[path.stem, node.name] = (len(node.args.args) - len(node.args.defaults), len(node.args.args))
                if isinstance(node, ast.ClassDef) and "__init__" in methods_of(node):
                    given = methods_of(node)["__init__"].args
                    takes[path.stem, node.name] = (len(given.args) - len(given.defaults) - 1, len(given.args) - 1)
        for path, tree in self.trees.items():
            known = {name: counts for (stem, name), counts in takes.items() if stem == path.stem}
            for node in tree.body:
                if isinstance(node, ast.ImportFrom) and node.module.startswith("toldmeans."):
                    for alias in node.names:
                        known[alias.name] = takes.get((node.module.split(".")[1], alias.name))
            for node in ast.walk(tree):
                if isinstance(node, ast.Call) and isinstance(node.func, ast.Name) and known.get(node.func.id):
                    least, most = known[node.func.id]
                    self.assertEqual(node.keywords, [], f"{path.name}:{node.lineno}")
                    self.assertTrue(least <= len(node.args) <= most, f"{path.name}:{node.lineno}")

    def test_all_that_is_imported_is_used(self):
        for path, tree in self.trees.items():
            used = {node.id for node in ast.walk(tree) if isinstance(node, ast.Name)}
            for node in tree.body:
                if isinstance(node, ast.ImportFrom):
                    for alias in node.names:
                        self.assertIn(alias.name, used, path.name)

    def test_what_stands_in_finally_and_exit(self):
        for where, node in self.nodes(ast.Try):
            for part in node.finalbody:
                for inner in ast.walk(part):
                    self.assertNotIsInstance(inner, (ast.Call, ast.Return, ast.Raise, ast.Subscript, ast.BinOp), where)
        for where, node in self.nodes(ast.FunctionDef):
            if node.name == "__exit__":
                for part in node.body:
                    self.assertIsInstance(part, ast.Assign, where)
                    self.assertIsInstance(part.value, ast.Attribute, where)

    def test_only_own_errors_are_caught(self):
        own = {node.name for _, node in self.nodes(ast.ClassDef)}
        for where, node in self.nodes(ast.ExceptHandler):
            self.assertIsInstance(node.type, ast.Name, where)
            self.assertIn(node.type.id, own, where)

    def test_stars_stand_before_names_alone(self):
        for where, node in self.nodes(ast.Call):
            for part in node.args:
                if isinstance(part, ast.Starred):
                    self.assertIsInstance(part.value, (ast.Name, ast.Attribute), where)

    def test_raised_errors_are_made_on_the_spot(self):
        for where, node in self.nodes(ast.Raise):
            self.assertIsInstance(node.exc, ast.Call, where)
            self.assertIsInstance(node.exc.func, ast.Name, where)


class InterfaceTest(unittest.TestCase):
    def test_names_and_arguments(self):
        for file, names in INTERFACE.items():
            tree = ast.parse((PACKAGE / file).read_text(encoding="utf-8"))
            told = {part.name: part for part in tree.body if isinstance(part, (ast.FunctionDef, ast.ClassDef))}
            for name, wanted in names.items():
                self.assertIn(name, told)
                if isinstance(told[name], ast.FunctionDef):
                    self.assertEqual(arguments_of(told[name]), wanted, name)
                elif wanted is not None:
                    self.assertEqual(arguments_of(methods_of(told[name])["__init__"])[1:], wanted, name)

    def test_methods_stand_in_their_class(self):
        for (file, owner), names in METHODS_OF.items():
            tree = ast.parse((PACKAGE / file).read_text(encoding="utf-8"))
            node = [part for part in tree.body if isinstance(part, ast.ClassDef) and part.name == owner][0]
            methods = methods_of(node)
            for name, wanted in names.items():
                self.assertEqual(arguments_of(methods[name])[1:], wanted, name)


if __name__ == "__main__":
    unittest.main()
