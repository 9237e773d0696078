"""The rules of ../shared/LANGUAGE.md, as far as a test can see them, and the names of the interface."""

import ast
import inspect
import unittest
import warnings
from importlib import import_module
from pathlib import Path

FOLDER = Path(__file__).resolve().parent.parent / "foldvat"
FILES = sorted(FOLDER.rglob("*.py"))
LIBRARY = {
    "heapq": {"heappush", "heappop", "heapify", "heapreplace", "heappushpop"},
    "math": {"gcd", "lcm", "isqrt", "comb", "perm", "factorial"},
    "itertools": {"product", "combinations", "permutations", "chain", "accumulate", "pairwise", "islice",
                  "zip_longest"},
    "collections": {"defaultdict", "deque"},
}
BUILTINS = set("len range enumerate zip min max sum abs sorted reversed int str bool bytes list tuple dict set "
               "frozenset isinstance ord repr any all divmod pow getattr hasattr setattr type super map iter next "
               "property staticmethod classmethod Exception ValueError TypeError KeyError IndexError LookupError "
               "ZeroDivisionError ArithmeticError OverflowError RuntimeError NotImplementedError AttributeError "
               "StopIteration NotImplemented".split())
BARRED = set("register mro elements open input law version_info with_traceback add_note".split())
METHODS = set("append clear copy count endswith extend find get index insert isalnum isalpha isdigit islower isspace "
              "isupper items join keys ljust lower lstrip partition pop remove replace reverse rfind rjust rpartition "
              "rsplit rstrip setdefault split splitlines startswith strip update upper values zfill bit_length add "
              "discard isascii __init__".split())
LET = (ast.Assign, ast.AugAssign, ast.AnnAssign, ast.If, ast.While, ast.For, ast.Return, ast.Break, ast.Continue,
       ast.Pass, ast.Raise, ast.Assert, ast.Delete, ast.Nonlocal, ast.Match, ast.With, ast.Try, ast.Expr,
       ast.FunctionDef, ast.ClassDef, ast.ImportFrom)

INTERFACE = {
    "rows": {"is_row": "places thing", "columns": "places row", "layers": "places row column",
             "stretches": "places row", "by_layers": "places row"},
    "spots": {"spot": "places row place", "way_of": "places row place", "place_at": "places row column depth",
              "run_now": "places row deeds column", "line_to": "places row place other"},
    "bends": {"bend": "places row place", "passing": "places row line", "bends": "places row",
              "bends_below": "places row number", "nth_bend": "places row kind number"},
    "dips": {"is_dip": "places row thing", "takes": "places row dip place", "taken": "places row dip"},
    "counts": {"taken_below": "places row dip number", "nth_taken": "places row dip number",
               "looks": "places row dip place many"},
    "vats": {"is_vat": "places thing", "marks": "places vat", "marks_below": "places vat number",
             "first_marked": "places vat mark", "are_alike": "places vat one other"},
    "patterns": {"is_pattern": "thing", "beginnings": "pattern", "row_for": "pattern", "shut": "pattern",
                 "shut_holds": "pattern paper"},
    "strips": {"strip_of": "places history"},
    "texts": {"show": "places history", "read": "text"},
}
CLASSES = {
    ("strips", "Strip"): {"__init__": "places", "fold": "way line", "turn": "", "open_up": "",
                          "dip": "side depth first last", "places": "", "row": "", "history": "", "dips": "",
                          "__len__": "", "spot": "place", "dyes": "place", "paper": "place", "taken": "dip",
                          "taken_below": "dip number", "nth_taken": "dip number", "marks": "dips"},
    ("desk", "Desk"): {"__init__": "", "say": "row"},
}


def nodes(kinds):
    """Each node of one of these kinds in the package, with its file's name."""
    for file in FILES:
        for node in ast.walk(ast.parse(file.read_text())):
            if isinstance(node, kinds):
                yield file.name, node


class Files(unittest.TestCase):
    def test_only_files_of_the_language(self):
        for path in FOLDER.rglob("*"):
            if "__pycache__" not in path.parts:
                self.assertTrue(path.is_dir() or path.suffix == ".py", path)
                self.assertEqual(path.name, path.name.lower())
        self.assertTrue((FOLDER / "__init__.py").is_file())
        self.assertLessEqual(len(FILES), 100)

    def test_characters_and_lengths(self):
        for file in FILES:
            data = file.read_bytes()
            self.assertTrue(all(sign == 10 or 32 <= sign <= 126 for sign in data), file.name)
            rows = data.decode().split("\n")
            self.assertLessEqual(len(rows), 400, file.name)
            self.assertLessEqual(max(map(len, rows)), 120, file.name)

    def test_functions_are_short(self):
        for name, node in nodes(ast.FunctionDef):
            self.assertLessEqual(node.end_lineno - node.lineno + 1, 40, (name, node.name))

    def test_python_warns_of_nothing(self):
        with warnings.catch_warnings():
            warnings.simplefilter("error")
            for file in FILES:
                compile(file.read_text(), file.name, "exec")


class Code(unittest.TestCase):
    def test_imports(self):
        self.assertEqual(list(nodes(ast.Import)), [])
        for name, node in nodes(ast.ImportFrom):
            self.assertEqual(node.level, 0, name)
            if node.module.startswith("foldvat."):
                where = import_module(node.module)
                for one in node.names:
                    found = getattr(where, one.name)
                    self.assertEqual(getattr(found, "__module__", node.module), node.module, (name, one.name))
            else:
                self.assertTrue({one.name for one in node.names} <= LIBRARY.get(node.module, set()), node.module)

    def test_module_level(self):
        kinds = (ast.Expr, ast.ImportFrom, ast.Assign, ast.FunctionDef, ast.ClassDef)
        for file in FILES:
            bound = []
            for number, node in enumerate(ast.parse(file.read_text()).body):
                self.assertIsInstance(node, kinds, file.name)
                self.assertTrue(not isinstance(node, ast.Expr) or number == 0, file.name)
                if isinstance(node, ast.Assign):
                    self.assertEqual([type(one) for one in node.targets], [ast.Name], file.name)
                    bound += [one.id for one in node.targets]
                elif isinstance(node, ast.ImportFrom):
                    bound += [one.asname or one.name for one in node.names]
                elif not isinstance(node, ast.Expr):
                    bound.append(node.name)
            self.assertEqual(len(bound), len(set(bound)), file.name)

    def test_statements(self):
        for name, node in nodes(ast.stmt):
            self.assertIsInstance(node, LET, name)
        barred = (ast.Div, ast.Await, ast.AsyncFor, ast.MatMult, ast.GeneratorExp)
        self.assertEqual([name for name, _ in nodes(barred)], [])

    def test_values(self):
        for name, node in nodes(ast.Constant):
            self.assertNotIsInstance(node.value, (float, complex), name)
            if isinstance(node.value, str):
                self.assertNotIn(chr(37), node.value, name)

    def test_only_builtins_of_the_language(self):
        every = set(dir(import_module("builtins")))
        for name, node in nodes(ast.Name):
            if node.id in every:
                self.assertIn(node.id, BUILTINS, name)
                self.assertIsInstance(node.ctx, ast.Load, (name, node.id))

    def test_names(self):
        every = set(dir(import_module("builtins")))
        for name, node in nodes((ast.FunctionDef, ast.arg, ast.Name, ast.ClassDef, ast.Attribute)):
            told = [getattr(node, field) for field in ("name", "arg", "id", "attr") if hasattr(node, field)][0]
            self.assertNotIn(told, BARRED, name)
            self.assertTrue(not told.startswith("__") or told in ("__init__", "__len__"), (name, told))
            if isinstance(node, (ast.FunctionDef, ast.arg, ast.ClassDef)):
                self.assertNotIn(told, every, name)
            if isinstance(node, (ast.FunctionDef, ast.ClassDef)) and told != "__init__":
                self.assertEqual(node.decorator_list, [], name)

    def test_locals_have_no_names_of_imports_or_classes(self):
        for file in FILES:
            tree = ast.parse(file.read_text())
            taken = {one.name for node in tree.body if isinstance(node, ast.ImportFrom) for one in node.names}
            taken |= {node.name for node in tree.body if isinstance(node, ast.ClassDef)}
            for node in ast.walk(tree):
                if isinstance(node, ast.arg):
                    self.assertNotIn(node.arg, taken, file.name)
                if isinstance(node, ast.Name) and isinstance(node.ctx, ast.Store):
                    self.assertNotIn(node.id, taken, file.name)

    def test_methods_of_builtin_values(self):
        own = {told.name for _, node in nodes(ast.ClassDef) for told in node.body if isinstance(told, ast.FunctionDef)}
        self.assertEqual(own & METHODS, {"__init__"})
        for name, node in nodes(ast.Call):
            if isinstance(node.func, ast.Attribute):
                self.assertIn(node.func.attr, METHODS | own, name)

    def test_sets_are_only_made_to_be_sorted_or_measured(self):
        for name, node in nodes((ast.Set, ast.SetComp)):
            self.fail((name, node.lineno))
        let = [node.args[0] for _, node in nodes(ast.Call)
               if isinstance(node.func, ast.Name) and node.func.id in ("sorted", "len")]
        let = {ast.dump(node, include_attributes=True) for node in let}
        for name, node in nodes(ast.Call):
            if isinstance(node.func, ast.Name) and node.func.id == "set":
                self.assertIn(ast.dump(node, include_attributes=True), let, name)

    def test_nothing_is_imported_in_a_ring(self):
        ahead = {file.stem: set() for file in FILES}
        for name, node in nodes(ast.ImportFrom):
            if node.module.startswith("foldvat."):
                ahead[name[:-3]].add(node.module.split(".")[1])
        while ahead:
            free = [stem for stem, others in ahead.items() if not others]
            self.assertTrue(free, ahead)
            ahead = {stem: others - set(free) for stem, others in ahead.items() if stem not in free}

    def test_tables_are_only_read(self):
        # A list or dict at module level is looked into, and never handed on or changed.
        tables = {node.targets[0].id for _, node in nodes(ast.Assign)
                  if isinstance(node.value, (ast.List, ast.Dict)) and isinstance(node.targets[0], ast.Name)
                  and node.targets[0].id.isupper()}
        self.assertEqual(tables, {"PARTNERS", "FORMS", "DEEDS", "ANSWERS"})
        for file in FILES:
            tree = ast.parse(file.read_text())
            let = set()
            for node in ast.walk(tree):
                if isinstance(node, ast.Subscript) and isinstance(node.ctx, ast.Load):
                    let.add(id(node.value))
                elif isinstance(node, ast.Compare) and isinstance(node.ops[0], (ast.In, ast.NotIn)):
                    let.add(id(node.comparators[0]))
                elif isinstance(node, ast.Attribute) and node.attr == "get":
                    let.add(id(node.value))
            for node in ast.walk(tree):
                if isinstance(node, ast.Name) and node.id in tables and isinstance(node.ctx, ast.Load):
                    self.assertIn(id(node), let, (file.name, node.id, node.lineno))

    def test_what_stands_beside_a_star(self):
        for name, node in nodes(ast.Call):
            stars = [at for at, one in enumerate(node.args) if isinstance(one, ast.Starred)]
            for one in node.args[stars[0]:] if stars else []:
                told = one.value if isinstance(one, ast.Starred) else one
                self.assertIsInstance(told, (ast.Name, ast.Attribute, ast.Constant), (name, node.lineno))

    def test_handlers_catch_own_errors_alone(self):
        own = set(dir(import_module("foldvat.errors")))
        for name, node in nodes(ast.ExceptHandler):
            self.assertIsInstance(node.type, ast.Name, name)
            self.assertIn(node.type.id, own, name)

    def test_lambdas(self):
        lines = [(name, node.lineno) for name, node in nodes(ast.Lambda)]
        self.assertEqual(len(lines), len(set(lines)))


class Interface(unittest.TestCase):
    def test_methods_stand_in_their_classes(self):
        for (file, name), methods in CLASSES.items():
            found = getattr(import_module(f"foldvat.{file}"), name)
            self.assertEqual((found.__module__, found.__mro__[1:]), (f"foldvat.{file}", (object,)), name)
            own = {told for told in vars(found) if not told.startswith("_") or told in ("__init__", "__len__")}
            self.assertEqual(own, set(methods), name)
            for method, arguments in methods.items():
                told = inspect.signature(vars(found)[method]).parameters
                self.assertEqual(list(told), ["self", *arguments.split()], (name, method))
                self.assertEqual({one.default for one in told.values()}, {inspect.Parameter.empty}, (name, method))

    def test_functions_stand_in_their_files(self):
        for file, functions in INTERFACE.items():
            where = import_module(f"foldvat.{file}")
            for name, arguments in functions.items():
                found = getattr(where, name)
                self.assertTrue(inspect.isfunction(found), name)
                self.assertEqual(found.__module__, f"foldvat.{file}", name)
                self.assertEqual(list(inspect.signature(found).parameters), arguments.split(), name)

    def test_only_what_is_told_so_may_be_left_out(self):
        for file, functions in INTERFACE.items():
            for name in functions:
                told = inspect.signature(getattr(import_module(f"foldvat.{file}"), name)).parameters.values()
                left = {one.name: (one.default, one.kind) for one in told if one.default is not one.empty}
                due = {"many": (64, inspect.Parameter.KEYWORD_ONLY)} if name == "looks" else {}
                self.assertEqual(left, due, name)


if __name__ == "__main__":
    unittest.main()
