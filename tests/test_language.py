"""The package keeps to the language rules, as far as a plain look at the code can tell.

Where the rules allow more than the package uses, this asks for what the package uses.
"""

import ast
import builtins
import pathlib
import re
import unittest

PACKAGE = pathlib.Path(__file__).resolve().parent.parent / "lotshown"
FILES = sorted(PACKAGE.glob("*.py"))
TREES = {path.stem: ast.parse(path.read_text()) for path in FILES}

LIBRARY = {"heapq": ("heappush", "heappop"), "math": ("gcd", "comb", "isqrt", "lcm"),
           "itertools": ("product", "combinations", "permutations")}
CALLED = ("len range enumerate zip min max sum abs sorted reversed int str bool list tuple dict set isinstance ord repr "
          "any all divmod").split()
METHODS = ("append clear copy count endswith extend find get index insert isdigit items join keys ljust lower lstrip partition "
           "pop remove replace reverse rfind rjust rpartition rsplit rstrip setdefault split splitlines startswith strip update "
           "upper values zfill bit_length").split()
BARRED = ("mro elements open input law version_info register attrgetter breakpoint builtins compile delattr dir eval exec exit gc "
          "globals help id importlib locals methodcaller os quit super type vars sys typing enum Enum dataclass").split()
LAZY = ("zip", "enumerate", "reversed", "range")
TAKERS = ("list", "tuple", "dict", "sorted", "sum", "any", "all", "enumerate", "zip", "min", "max")
NODES = (
    ast.Module, ast.FunctionDef, ast.ClassDef, ast.arguments, ast.arg, ast.Return, ast.Assign, ast.AugAssign, ast.For, ast.While,
    ast.If, ast.Raise, ast.ImportFrom, ast.alias, ast.Expr, ast.Pass, ast.Break, ast.Continue, ast.BoolOp, ast.BinOp, ast.UnaryOp,
    ast.Lambda, ast.IfExp, ast.Dict, ast.ListComp, ast.DictComp, ast.SetComp, ast.GeneratorExp, ast.comprehension, ast.Compare,
    ast.Call, ast.keyword, ast.Constant, ast.Attribute, ast.Subscript, ast.Name, ast.List, ast.Tuple, ast.Slice, ast.expr_context,
    ast.boolop, ast.operator, ast.unaryop, ast.cmpop, ast.JoinedStr, ast.FormattedValue, ast.Delete, ast.Try, ast.ExceptHandler,
)
OWN_ERRORS = ("OutOfRange", "Malformed", "NotThere", "Refused", "TooMuch")
# What strings, numbers, lists, dicts, sets and bytes have as a method or an attribute.
BUILTIN_NAMES = {name for value in ("", 0, [], {}, set(), b"") for name in dir(value)}


def all_nodes():
    for name, tree in TREES.items():
        for node in ast.walk(tree):
            yield f"{name}:{getattr(node, 'lineno', 0)}", node


def parents(tree):
    return {child: node for node in ast.walk(tree) for child in ast.iter_child_nodes(node)}


def imported(tree):
    return [(row.module, alias) for row in tree.body if isinstance(row, ast.ImportFrom) for alias in row.names]


class Files(unittest.TestCase):
    def test_sizes_and_signs(self):
        for path in FILES:
            text = path.read_text()
            self.assertTrue(re.fullmatch(r"[\n -~]*", text), path.name)
            self.assertTrue(text.endswith("\n"), path.name)
            self.assertLessEqual(len(text.split("\n")), 399, path.name)
            self.assertLessEqual(max(len(line) for line in text.split("\n")), 120, path.name)

    def test_functions_have_at_most_40_lines(self):
        for place, node in all_nodes():
            if isinstance(node, ast.FunctionDef):
                self.assertLessEqual(node.end_lineno - node.lineno + 1, 40, place)

    def test_only_plain_files(self):
        for path in PACKAGE.iterdir():
            if path.name != "__pycache__":
                self.assertTrue(re.fullmatch(r"[a-z_]+\.py", path.name), path.name)
        self.assertEqual([type(row) for row in TREES["__init__"].body], [ast.Expr])

    def test_module_level(self):
        for name, tree in TREES.items():
            for row in tree.body[1:]:
                self.assertIsInstance(row, (ast.ImportFrom, ast.Assign, ast.FunctionDef, ast.ClassDef), name)
                if isinstance(row, ast.Assign):
                    self.assertEqual([type(target) for target in row.targets], [ast.Name], name)
                    self.assertFalse([node for node in ast.walk(row) if isinstance(node, (ast.Call, ast.ListComp))], name)
            self.assertIsNotNone(ast.get_docstring(tree), name)

    def test_imports(self):
        for name, tree in TREES.items():
            for module, alias in imported(tree):
                self.assertIsNone(alias.asname)
                if module in LIBRARY:
                    self.assertIn(alias.name, LIBRARY[module])
                    continue
                package, stem = module.split(".")
                self.assertEqual(package, "lotshown")
                rows = [row.name for row in TREES[stem].body if isinstance(row, (ast.FunctionDef, ast.ClassDef))]
                self.assertIn(alias.name, rows, name)
                self.assertFalse(alias.name.startswith("_"), name)

    def test_no_two_files_import_from_each_other(self):
        below = {name: {module.split(".")[1] for module, _ in imported(tree) if module.startswith("lotshown.")}
                 for name, tree in TREES.items()}
        while below:
            free = [name for name in below if not below[name]]
            self.assertTrue(free, below)
            below = {name: row.difference(free) for name, row in below.items() if name not in free}

    def test_what_is_imported_is_used(self):
        for name, tree in TREES.items():
            used = [node.id for node in ast.walk(tree) if isinstance(node, ast.Name)]
            for _, alias in imported(tree):
                self.assertIn(alias.name, used, name)


class Names(unittest.TestCase):
    def test_one_binding_at_module_level(self):
        for name, tree in TREES.items():
            bound = [alias.name for _, alias in imported(tree)]
            for row in tree.body:
                if isinstance(row, (ast.FunctionDef, ast.ClassDef)):
                    bound.append(row.name)
                elif isinstance(row, ast.Assign):
                    bound.append(row.targets[0].id)
            self.assertEqual(len(bound), len(set(bound)), name)

    def test_no_name_has_another_meaning(self):
        for name, tree in TREES.items():
            fixed = [alias.name for _, alias in imported(tree)]
            fixed += [row.name for row in tree.body if isinstance(row, ast.ClassDef)] + dir(builtins) + BARRED
            for node in ast.walk(tree):
                for word in self.bound_by(node):
                    self.assertNotIn(word, fixed, name)
                    self.assertRegex(word, r"\A(_?[A-Za-z][A-Za-z0-9_]*|_|__init__)\Z", name)

    def bound_by(self, node):
        if isinstance(node, ast.arg):
            return [node.arg]
        if isinstance(node, ast.Name) and isinstance(node.ctx, ast.Store):
            return [node.id]
        return [node.name] if isinstance(node, ast.FunctionDef) else []

    def test_builtins(self):
        for place, node in all_nodes():
            if isinstance(node, ast.Name) and hasattr(builtins, node.id) and node.id != "ValueError":
                self.assertIn(node.id, CALLED, place)

    def test_methods(self):
        attributes, methods = self.attributes(), self.own_methods()
        for name, tree in TREES.items():
            above = parents(tree)
            for node in ast.walk(tree):
                if isinstance(node, ast.Attribute) and node.attr not in attributes:
                    place = f"{name}:{node.lineno}"
                    self.assertIn(node.attr, METHODS + methods, place)
                    self.assertIsInstance(above[node], ast.Call, place)
                    self.assertIs(above[node].func, node, place)
                    self.assertEqual(above[node].keywords, [], place)

    def classes(self):
        return [node for _, node in all_nodes() if isinstance(node, ast.ClassDef)]

    def own_methods(self):
        return [row.name for node in self.classes() for row in node.body if isinstance(row, ast.FunctionDef)]

    def attributes(self):
        """List the attributes that methods assign to their own objects."""
        return [node.attr for one in self.classes() for node in ast.walk(one) if isinstance(node, ast.Attribute)
                and isinstance(node.ctx, ast.Store) and isinstance(node.value, ast.Name) and node.value.id == "self"]

    def test_own_methods_and_attributes(self):
        methods, attributes = self.own_methods(), self.attributes()
        self.assertTrue(attributes)
        for word in methods + attributes:
            if word != "__init__":
                self.assertNotIn(word, BUILTIN_NAMES)
                self.assertNotIn(word, BARRED)
                self.assertRegex(word, r"\A_?[a-z][a-z0-9_]*\Z")
        self.assertEqual([word for word in methods if word in attributes], [])
        for node in self.classes():
            names = [row.name for row in node.body if isinstance(row, ast.FunctionDef)]
            self.assertEqual(len(names), len(set(names)))

    def test_attributes_are_assigned_to_objects_of_their_own(self):
        for place, node in all_nodes():
            if isinstance(node, ast.Attribute) and isinstance(node.ctx, (ast.Store, ast.Del)):
                self.assertIsInstance(node.value, ast.Name, place)
                self.assertEqual(node.value.id, "self", place)

    def test_own_errors_are_caught_around_calls(self):
        for place, node in all_nodes():
            if isinstance(node, ast.ExceptHandler):
                self.assertIn(node.type.id, OWN_ERRORS, place)
                self.assertIsNone(node.name, place)
            if isinstance(node, ast.Try):
                self.assertEqual((node.orelse, node.finalbody), ([], []), place)

    def test_no_parameter_has_the_name_of_a_class_or_an_import(self):
        for name, tree in TREES.items():
            fixed = [alias.name for _, alias in imported(tree)] + [row.name for row in tree.body if isinstance(row, ast.ClassDef)]
            for node in ast.walk(tree):
                if isinstance(node, ast.arg):
                    self.assertNotIn(node.arg, fixed, name)


class Expressions(unittest.TestCase):
    def test_only_plain_nodes(self):
        for place, node in all_nodes():
            self.assertIsInstance(node, NODES, place)
            self.assertFalse(isinstance(node, (ast.FunctionDef, ast.ClassDef)) and node.decorator_list, place)
            self.assertNotIsInstance(node, (ast.Div, ast.MatMult), place)

    def test_constants(self):
        for place, node in all_nodes():
            if isinstance(node, ast.Constant):
                self.assertIsInstance(node.value, (int, str, bool, type(None)), place)

    def test_no_percent_sign_in_strings(self):
        for name, tree in TREES.items():
            above = parents(tree)
            for node in ast.walk(tree):
                if isinstance(node, ast.Constant) and isinstance(node.value, str) and not isinstance(above[node], ast.Expr):
                    self.assertNotIn("%", node.value, name)

    def test_exponents_are_literals(self):
        for place, node in all_nodes():
            if isinstance(node, ast.BinOp) and isinstance(node.op, ast.Pow):
                self.assertIsInstance(node.right, ast.Constant, place)
                self.assertLessEqual(node.right.value, 64, place)

    def test_is_only_beside_none_and_truth_values(self):
        for place, node in all_nodes():
            if isinstance(node, ast.Compare) and any(isinstance(sign, (ast.Is, ast.IsNot)) for sign in node.ops):
                self.assertIsInstance(node.comparators[-1], ast.Constant, place)

    def test_what_is_lazy_is_iterated_at_once(self):
        for name, tree in TREES.items():
            above = parents(tree)
            for node in ast.walk(tree):
                lazy = isinstance(node, ast.Call) and isinstance(node.func, ast.Name) and node.func.id in LAZY
                view = isinstance(node, ast.Call) and isinstance(node.func, ast.Attribute)
                view = view and node.func.attr in ("items", "keys", "values")
                if lazy or view:
                    self.assertTrue(self.is_iterated(node, above[node]), f"{name}:{node.lineno}")

    def is_iterated(self, node, above):
        if isinstance(above, (ast.For, ast.comprehension)):
            return above.iter is node
        named = isinstance(above, ast.Call) and isinstance(above.func, ast.Name)
        joins = isinstance(above, ast.Call) and isinstance(above.func, ast.Attribute) and above.func.attr == "join"
        return joins or named and above.func.id in TAKERS or (
            named and above.func.id == "reversed" and node.func.id == "range")

    def test_generator_expressions(self):
        for name, tree in TREES.items():
            above = parents(tree)
            for node in ast.walk(tree):
                if isinstance(node, ast.GeneratorExp):
                    self.assertTrue(self.is_iterated(node, above[node]), f"{name}:{node.lineno}")

    def test_sets_are_sorted_measured_or_asked(self):
        for name, tree in TREES.items():
            above = parents(tree)
            for node in ast.walk(tree):
                made = isinstance(node, ast.Call) and isinstance(node.func, ast.Name) and node.func.id == "set"
                if made or isinstance(node, ast.SetComp):
                    outer = above[node]
                    place = f"{name}:{node.lineno}"
                    self.assertTrue(isinstance(outer, ast.Call) and outer.func.id in ("sorted", "len"), place)

    def test_errors_are_raised_with_one_text(self):
        for place, node in all_nodes():
            if isinstance(node, ast.Raise):
                self.assertIsInstance(node.exc, ast.Call, place)
                self.assertEqual(len(node.exc.args), 1, place)


if __name__ == "__main__":
    unittest.main()
