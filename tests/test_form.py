"""Tests of the form of the package: the rules of its subset of Python that can be seen in single nodes."""

import ast
import builtins
import unittest
from pathlib import Path

PACKAGE = Path(__file__).resolve().parent.parent / "coastersafe"
INTERFACE = {
    "errors": [
        "CoasterError", "BadNumber", "InvalidLayout", "InvalidTrain", "InvalidRide", "InvalidText",
        "NotFitting", "UnknownName", "TooLarge",
    ],
    "numbers": ["divided_down", "divided_up", "root_down", "root_up", "is_interval", "added", "hull", "common"],
    "layout": ["Layout", "format_layout", "parse_layout"],
    "train": ["Train"],
    "motion": [
        "after_metre", "roll", "energies_after", "greatest_energies", "least_energies", "metre_times", "way_times",
    ],
    "envelope": ["envelope", "stops", "faults", "passage_times", "ride_of"],
    "ride": ["Ride", "readings", "moved", "dangers", "is_at_rest"],
    "logic": [
        "Logic", "parse_logic", "format_logic", "condition_value", "parse_condition", "format_condition",
    ],
    "machine": ["compiled", "run_compiled"],
    "control": ["fits", "standard_logic", "scanned", "safe_scans", "play"],
    "checker": ["check", "is_invariant", "breaks", "reached"],
    "ridecheck": ["choices", "check_ride", "is_safe_list", "all_faults"],
    "operation": ["operate", "laps", "shares"],
    "rolltimes": ["roll_times", "scans_for", "is_within"],
    "needs": ["with_lift", "with_strength", "least_lift", "least_strength", "longest_train"],
    "rungs": ["parse_rungs", "format_rungs"],
    "compare": ["compare"],
    "simple": ["simplified_condition", "simplified", "needed", "cut_down"],
    "recorder": ["record_of", "explanation", "causes"],
    "interlocks": ["parse_table", "apart_condition"],
    "ridetext": ["format_ride", "parse_ride", "format_train", "parse_train", "format_play", "parse_play"],
    "capacity": ["cycle", "rate", "best_number"],
    "verdicts": ["format_verdict", "parse_verdict", "accepts"],
    "homeward": ["after_plan", "is_plan", "best_plan"],
    "uses": ["readers", "writers", "idle", "constant_bits", "settled"],
    "fleet": ["worst_train", "are_safe", "worst_faults"],
    "charts": ["chart", "run_of_chart", "is_true_chart"],
    "suites": ["goals_of", "suite", "is_suite"],
    "rideverdicts": ["format_ride_verdict", "parse_ride_verdict", "accepts_ride"],
}
METHODS = {
    "Layout": ["__init__", "total", "blocks", "metre", "height", "begin", "brake", "end"],
    "Train": ["__init__"],
    "Ride": ["__init__", "first", "parts"],
    "Logic": ["first", "scan", "value", "__eq__"],
}
LIBRARY = {"math": {"gcd", "lcm", "isqrt", "comb", "perm", "factorial"}}
BUILTINS = set(
    "len range enumerate zip min max sum abs sorted reversed int str bool list tuple dict set isinstance ord repr "
    "any all divmod Exception ValueError TypeError KeyError IndexError LookupError ZeroDivisionError".split()
)
BUILTIN_METHODS = set(
    "append clear copy count endswith extend find get index insert isalnum isalpha isdigit islower isspace isupper "
    "items join keys ljust lower lstrip partition pop remove replace reverse rfind rjust rpartition rsplit rstrip "
    "setdefault split splitlines startswith strip update upper values zfill bit_length".split()
)
BARRED = set(
    "register mro elements open input law version_info with_traceback add_note type eval exec compile globals locals "
    "vars dir help id exit quit os sys gc builtins importlib delattr".split()
)
BARRED_NODES = (
    ast.Global, ast.AsyncFunctionDef, ast.AsyncFor, ast.AsyncWith, ast.Await, ast.Div, ast.MatMult, ast.SetComp,
    ast.TryStar,
)
BARRED_BEGINNINGS = ("_wall", "_pe_", "_dcw_", "_enum_", "_cm_", "_twin_re_", "_lay_", "_law_", "_stub_", "_sre")


def sources():
    return {path.stem: path.read_text(encoding="utf-8") for path in sorted(PACKAGE.glob("*.py"))}


def trees():
    return {name: ast.parse(text) for name, text in sources().items()}


def nodes_of(kind):
    for name, tree in trees().items():
        for node in ast.walk(tree):
            if isinstance(node, kind):
                yield name, node


def bound_names(tree):
    """All names that a file gives a meaning."""
    for node in ast.walk(tree):
        if isinstance(node, (ast.FunctionDef, ast.ClassDef)):
            yield node.name
        elif isinstance(node, ast.arg):
            yield node.arg
        elif isinstance(node, ast.Name) and isinstance(node.ctx, ast.Store):
            yield node.id
        elif isinstance(node, ast.alias):
            yield node.asname or node.name


class FilesTest(unittest.TestCase):
    def test_only_python_files(self):
        names = [path.name for path in PACKAGE.iterdir() if path.name != "__pycache__"]
        self.assertEqual([name for name in names if not name.endswith(".py")], [])
        self.assertIn("__init__.py", names)

    def test_characters_and_sizes(self):
        for name, text in sources().items():
            self.assertTrue(all(sign == "\n" or " " <= sign <= "~" for sign in text), name)
            lines = text.split("\n")
            self.assertLessEqual(len(lines), 400, name)
            self.assertEqual([line for line in lines if len(line) > 120], [], name)

    def test_functions_have_at_most_forty_lines(self):
        for name, node in nodes_of(ast.FunctionDef):
            self.assertLessEqual(node.end_lineno - node.lineno + 1, 40, (name, node.name))

    def test_modules_hold_only_plain_statements(self):
        allowed = (ast.ImportFrom, ast.FunctionDef, ast.ClassDef, ast.Assign)
        for name, tree in trees().items():
            for node in tree.body:
                is_docstring = isinstance(node, ast.Expr) and isinstance(node.value, ast.Constant)
                self.assertTrue(is_docstring or isinstance(node, allowed), (name, node.lineno))


class NamesTest(unittest.TestCase):
    def test_imports(self):
        files = trees()
        for name, node in nodes_of((ast.Import, ast.ImportFrom)):
            self.assertIsInstance(node, ast.ImportFrom, name)
            imported = [alias.name for alias in node.names]
            if node.module in LIBRARY:
                self.assertLessEqual(set(imported), LIBRARY[node.module], name)
                continue
            self.assertTrue(node.module.startswith("coastersafe."), (name, node.module))
            defined = set()
            for statement in files[node.module.split(".")[1]].body:
                if isinstance(statement, (ast.FunctionDef, ast.ClassDef)):
                    defined.add(statement.name)
                elif isinstance(statement, ast.Assign):
                    defined.add(statement.targets[0].id)
            self.assertLessEqual(set(imported), defined, name)

    def test_no_files_import_each_other(self):
        imports = {name: [] for name in trees()}
        for name, node in nodes_of(ast.ImportFrom):
            if node.module.startswith("coastersafe."):
                imports[name].append(node.module.split(".")[1])
        done = []
        while imports:
            free = [name for name in imports if all(other in done for other in imports[name])]
            self.assertNotEqual(free, [], list(imports))
            done.extend(free)
            imports = {name: others for name, others in imports.items() if name not in free}

    def test_names_that_are_not_used(self):
        for name, tree in trees().items():
            for bound in bound_names(tree):
                self.assertNotIn(bound, BARRED, name)
                self.assertNotIn(bound, dir(builtins), name)
                self.assertFalse(bound.startswith(BARRED_BEGINNINGS), (name, bound))
                self.assertFalse(bound.startswith("__") and not bound.endswith("__"), (name, bound))

    def test_classes_begin_with_a_letter(self):
        for name, node in nodes_of(ast.ClassDef):
            self.assertTrue(node.name[0].isalpha(), (name, node.name))

    def test_builtins(self):
        for name, node in nodes_of(ast.Name):
            if node.id in dir(builtins):
                self.assertIn(node.id, BUILTINS, (name, node.lineno))

    def test_methods_are_own_or_allowed(self):
        own = {node.name for _, node in nodes_of(ast.FunctionDef)}
        for name, node in nodes_of(ast.Call):
            if isinstance(node.func, ast.Attribute):
                self.assertIn(node.func.attr, BUILTIN_METHODS | own, (name, node.lineno))

    def test_the_interface_stands_in_its_files(self):
        files = trees()
        for name, names in INTERFACE.items():
            nodes = [node for node in files[name].body if isinstance(node, (ast.FunctionDef, ast.ClassDef))]
            defined = {node.name: node for node in nodes}
            self.assertLessEqual(set(names), set(defined), name)
            for one in names:
                methods = [node.name for node in defined[one].body if isinstance(node, ast.FunctionDef)]
                self.assertLessEqual(set(METHODS.get(one, [])), set(methods), one)


class StatementsTest(unittest.TestCase):
    def test_statements_and_signs_that_are_not_used(self):
        for name, node in nodes_of(BARRED_NODES):
            self.fail((name, type(node).__name__, getattr(node, "lineno", None)))

    def test_no_decorators_and_no_annotations(self):
        for name, node in nodes_of((ast.FunctionDef, ast.ClassDef)):
            self.assertEqual(node.decorator_list, [], (name, node.name))

    def test_literals(self):
        for name, node in nodes_of(ast.Constant):
            self.assertNotIsInstance(node.value, (float, complex, bytes), (name, node.lineno))
            if isinstance(node.value, str):
                self.assertNotIn(chr(37), node.value, (name, node.lineno))

    def test_errors_that_are_caught(self):
        for name, node in nodes_of(ast.ExceptHandler):
            self.assertIsInstance(node.type, ast.Name, (name, node.lineno))
            self.assertNotIn(node.type.id, ("Exception", "ValueError", "LookupError", "IndexError", "CoasterError"))

    def test_comprehensions_instead_of_generators(self):
        # A class with an order of its own or with == asks for lists.
        for name, node in nodes_of((ast.GeneratorExp, ast.Yield, ast.YieldFrom)):
            self.fail((name, node.lineno))


if __name__ == "__main__":
    unittest.main()
