"""The rules of ../shared/LANGUAGE.md, as far as the package uses the language.

What the package does not use is refused here, even where the rules allow it:
whoever needs more of the language adds it to the lists below.
"""

import ast
import builtins
import os
import re
import unittest

PACKAGE = os.path.join(os.path.dirname(os.path.dirname(os.path.abspath(__file__))), "cayleywalk")

LIBRARY = {
    "math": {"gcd", "lcm", "isqrt", "comb", "perm", "factorial"},
    "heapq": {"heappush", "heappop", "heapify", "heapreplace", "heappushpop"},
}

STATEMENTS = (
    ast.FunctionDef, ast.ClassDef, ast.ImportFrom, ast.Return, ast.Assign, ast.AugAssign, ast.If, ast.While, ast.For,
    ast.Raise, ast.Try, ast.Expr, ast.Pass, ast.Break, ast.Continue, ast.With, ast.Delete,
)

EXPRESSIONS = (
    ast.Constant, ast.Name, ast.Attribute, ast.Subscript, ast.Slice, ast.Call, ast.BinOp, ast.UnaryOp, ast.BoolOp,
    ast.Compare, ast.IfExp, ast.List, ast.Tuple, ast.Dict, ast.ListComp, ast.DictComp, ast.Yield, ast.YieldFrom,
    ast.Starred,
)

OPERATORS = (
    ast.Add, ast.Sub, ast.Mult, ast.FloorDiv, ast.Mod, ast.USub, ast.Not, ast.And, ast.Or, ast.Eq, ast.NotEq, ast.Lt,
    ast.LtE, ast.Gt, ast.GtE, ast.In, ast.NotIn, ast.Is, ast.IsNot, ast.Load, ast.Store, ast.Del, ast.BitXor,
)

OTHERS = (ast.arguments, ast.arg, ast.keyword, ast.comprehension, ast.alias, ast.ExceptHandler, ast.withitem)

BUILTINS = set(
    "len range enumerate zip min max sum abs sorted reversed int str bool list tuple dict isinstance any all divmod "
    "iter ord ValueError".split()
)

METHODS = set(
    "append clear copy count endswith extend find get index insert items join keys partition pop remove replace reverse "
    "setdefault startswith split strip swapcase update values".split()
)

DOUBLE = {"__init__", "__len__", "__iter__", "__enter__", "__exit__"}

BARRED = set("register mro elements open input law version_info with_traceback add_note".split())


def package_files():
    return sorted(name for name in os.listdir(PACKAGE) if name != "__pycache__")


def read(name):
    with open(os.path.join(PACKAGE, name), encoding="utf-8", newline="") as file:
        return file.read()


def all_trees():
    return {name: ast.parse(read(name)) for name in package_files()}


def functions_of(tree):
    return [node for node in ast.walk(tree) if isinstance(node, ast.FunctionDef)]


def imports_of(tree):
    return [node for node in tree.body if isinstance(node, ast.ImportFrom)]


def names_defined(tree):
    found = [node.name for node in tree.body if isinstance(node, (ast.FunctionDef, ast.ClassDef))]
    for node in tree.body:
        if isinstance(node, ast.Assign):
            found += [target.id for target in node.targets]
    return found


def methods_of(tree):
    classes = [node for node in tree.body if isinstance(node, ast.ClassDef)]
    return [node for found in classes for node in found.body if isinstance(node, ast.FunctionDef)]


def attributes_assigned(tree):
    nodes = [node for node in ast.walk(tree) if isinstance(node, ast.Attribute) and isinstance(node.ctx, ast.Store)]
    return {node.attr for node in nodes if isinstance(node.value, ast.Name) and node.value.id == "self"}


def names_bound(function):
    found = [arg.arg for arg in ast.walk(function.args) if isinstance(arg, ast.arg)]
    for node in ast.walk(function):
        if isinstance(node, ast.Name) and isinstance(node.ctx, ast.Store):
            found.append(node.id)
    return found


def is_plain_value(node, above):
    """Return True for what may stand at module level: literals and the functions defined above."""
    if isinstance(node, ast.Dict):
        return all(is_plain_value(part, above) for part in node.keys + node.values)
    if isinstance(node, (ast.Tuple, ast.List)):
        return all(is_plain_value(part, above) for part in node.elts)
    if isinstance(node, ast.UnaryOp):
        return isinstance(node.op, ast.USub) and isinstance(node.operand, ast.Constant)
    return isinstance(node, ast.Constant) or (isinstance(node, ast.Name) and node.id in above)


def is_docstring(node):
    return isinstance(node, ast.Expr) and isinstance(node.value, ast.Constant) and isinstance(node.value.value, str)


class TextTest(unittest.TestCase):
    def test_folder(self):
        for name in package_files():
            self.assertRegex(name, r"\A[a-z0-9_]+\.py\Z")
        self.assertIn("__init__.py", package_files())

    def test_lines(self):
        for name in package_files():
            text = read(name)
            self.assertRegex(text, r"\A[ -~\n]*\Z", name)
            lines = text.split("\n")
            self.assertLessEqual(len(lines), 400, name)
            for line in lines:
                self.assertLessEqual(len(line), 120, name)
                self.assertEqual(line, line.rstrip(), name)

    def test_functions_are_short(self):
        for name, tree in all_trees().items():
            for function in functions_of(tree):
                self.assertLessEqual(function.end_lineno - function.lineno + 1, 40, (name, function.name))


class SyntaxTest(unittest.TestCase):
    def test_only_known_parts(self):
        known = STATEMENTS + EXPRESSIONS + OPERATORS + OTHERS + (ast.Module,)
        for name, tree in all_trees().items():
            for node in ast.walk(tree):
                self.assertIsInstance(node, known, (name, getattr(node, "lineno", None)))

    def test_module_level(self):
        allowed = (ast.FunctionDef, ast.ClassDef, ast.ImportFrom)
        for name, tree in all_trees().items():
            self.assertTrue(is_docstring(tree.body[0]), name)
            above = set()
            for node in tree.body[1:]:
                if isinstance(node, ast.Assign):
                    self.assertEqual(len(node.targets), 1, name)
                    self.assertTrue(is_plain_value(node.value, above), (name, node.lineno))
                else:
                    self.assertIsInstance(node, allowed, (name, node.lineno))
                if isinstance(node, ast.FunctionDef):
                    above.add(node.name)
            names = names_defined(tree) + [alias.name for node in imports_of(tree) for alias in node.names]
            self.assertEqual(len(names), len(set(names)), name)

    def test_functions(self):
        for name, tree in all_trees().items():
            for function in functions_of(tree):
                arguments = function.args
                self.assertEqual(function.decorator_list, [], name)
                self.assertEqual((arguments.kwarg, arguments.posonlyargs), (None, []), name)
                if arguments.vararg is not None:
                    self.assertIn(function, tree.body, name)
                self.assertIsNone(function.returns, name)

    def test_constants(self):
        for name, tree in all_trees().items():
            for node in ast.walk(tree):
                if isinstance(node, ast.Constant):
                    self.assertNotIsInstance(node.value, (float, complex, bytes), name)
                    if isinstance(node.value, str):
                        self.assertNotIn("%", node.value, name)
                        self.assertNotIn("\\", node.value, name)

    def test_identity(self):
        for name, tree in all_trees().items():
            for node in ast.walk(tree):
                if isinstance(node, ast.Compare) and isinstance(node.ops[0], (ast.Is, ast.IsNot)):
                    self.assertIsInstance(node.comparators[0], ast.Constant, (name, node.lineno))

    def test_errors(self):
        for name, tree in all_trees().items():
            for node in ast.walk(tree):
                if isinstance(node, ast.Raise):
                    self.assertIsInstance(node.exc, ast.Call, (name, node.lineno))
                if isinstance(node, ast.ExceptHandler):
                    self.assertIn(node.type.id, names_defined(ast.parse(read("errors.py"))), (name, node.lineno))


class NamesTest(unittest.TestCase):
    def test_imports(self):
        trees = all_trees()
        for name, tree in trees.items():
            used = {node.id for node in ast.walk(tree) if isinstance(node, ast.Name)}
            for node in ast.walk(tree):
                if isinstance(node, ast.ImportFrom):
                    self.assertIn(node, tree.body, name)
            for node in imports_of(tree):
                self.assertEqual(node.level, 0, name)
                names = [alias.name for alias in node.names]
                self.assertEqual([alias.asname for alias in node.names], [None] * len(names), name)
                if node.module in LIBRARY:
                    self.assertLessEqual(set(names), LIBRARY[node.module], name)
                else:
                    package, file = node.module.split(".")
                    self.assertEqual(package, "cayleywalk", name)
                    self.assertLessEqual(set(names), set(names_defined(trees[file + ".py"])), name)
                self.assertLessEqual(set(names), used, name)

    def test_no_circles(self):
        behind = {}
        for name, tree in all_trees().items():
            modules = [node.module for node in imports_of(tree) if node.module not in LIBRARY]
            behind[name] = {module.split(".")[1] + ".py" for module in modules}
        while behind:
            ends = [name for name in behind if not behind[name] & set(behind)]
            self.assertNotEqual(ends, [], sorted(behind))
            for name in ends:
                del behind[name]

    def test_init_binds_nothing(self):
        self.assertEqual(len(ast.parse(read("__init__.py")).body), 1)

    def test_builtins(self):
        every = set(dir(builtins))
        for name, tree in all_trees().items():
            for node in ast.walk(tree):
                if isinstance(node, ast.Name) and node.id in every:
                    self.assertIn(node.id, BUILTINS, (name, node.lineno))
                    self.assertIsInstance(node.ctx, ast.Load, (name, node.lineno))

    def test_names_bound(self):
        every = set(dir(builtins))
        for name, tree in all_trees().items():
            taken = {alias.name for node in imports_of(tree) for alias in node.names}
            taken |= set(names_defined(tree)) | every | BARRED
            methods = methods_of(tree)
            for function in functions_of(tree):
                self.assertNotIn(function.name, BARRED | BUILTINS, name)
                if function not in methods:
                    self.assertNotIn(function.name, every, name)
                for bound in names_bound(function):
                    self.assertNotIn(bound, taken, (name, function.name))
                    self.assertRegex(bound, r"\A(_|[a-z][a-z0-9_]*)\Z", name)

    def test_unused_name_is_not_read(self):
        for name, tree in all_trees().items():
            for node in ast.walk(tree):
                if isinstance(node, ast.Name) and node.id == "_":
                    self.assertIsInstance(node.ctx, ast.Store, (name, node.lineno))

    def test_methods(self):
        trees = all_trees()
        own = set()
        for name, tree in trees.items():
            attributes = attributes_assigned(tree)
            methods = {node.name for node in methods_of(tree)}
            self.assertEqual(attributes & methods, set(), name)
            self.assertEqual(attributes & (METHODS | BARRED), set(), name)
            own |= attributes | methods
        for name, tree in trees.items():
            for node in ast.walk(tree):
                if isinstance(node, ast.Attribute):
                    self.assertIn(node.attr, METHODS | own, (name, node.lineno))
                    self.assertRegex(node.attr, r"\A_?[a-z][a-z0-9_]*\Z", (name, node.lineno))

    def test_only_these_methods_have_two_underscores(self):
        for name, tree in all_trees().items():
            for method in functions_of(tree):
                if method.name.startswith("__"):
                    self.assertIn(method.name, DOUBLE, name)
                    self.assertIn(method, methods_of(tree), name)
                if method.name in ("__len__", "__iter__"):
                    text = ast.unparse(method.body[-1])
                    self.assertRegex(text, r"\Areturn (len|iter)\(self\.\w+\)\Z", name)
                    self.assertEqual(len(method.body), 1, name)

    def test_what_an_exit_does(self):
        kinds = (ast.If, ast.Assign, ast.BoolOp, ast.Or, ast.And, ast.Compare, ast.Is, ast.IsNot, ast.Name,
                 ast.Attribute, ast.Constant, ast.Load, ast.Store)
        for name, tree in all_trees().items():
            for method in methods_of(tree):
                if method.name == "__exit__":
                    self.assertEqual([arg.arg for arg in method.args.args], ["self", "kind", "value", "trace"])
                    for node in [node for row in method.body for node in ast.walk(row)]:
                        self.assertIsInstance(node, kinds, name)
                        if isinstance(node, ast.Name):
                            self.assertIn(node.id, ("self", "kind"), (name, node.lineno))

    def test_generators_are_read_at_once(self):
        trees = all_trees()
        steps = (ast.Yield, ast.YieldFrom)
        generators = {
            function.name
            for tree in trees.values()
            for function in functions_of(tree)
            if any(isinstance(node, steps) for node in ast.walk(function))
        }
        for name, tree in trees.items():
            for node in ast.walk(tree):
                if isinstance(node, ast.Name) and node.id in generators:
                    pattern = r"(for .* in|list\(|yield from) ?" + node.id + r"\("
                    line = read(name).split("\n")[node.lineno - 1]
                    self.assertTrue(re.search(pattern, line), (name, node.lineno))


class LoopsTest(unittest.TestCase):
    def test_what_a_loop_goes_over_stays(self):
        changing = {"append", "clear", "extend", "insert", "pop", "remove", "reverse", "update"}
        for name, tree in all_trees().items():
            for loop in ast.walk(tree):
                if not isinstance(loop, ast.For):
                    continue
                over = {node.id for node in ast.walk(loop.iter) if isinstance(node, ast.Name)}
                if isinstance(loop.iter, ast.Call) and getattr(loop.iter.func, "id", "") == "range":
                    continue
                for node in [found for row in loop.body for found in ast.walk(row)]:
                    changed = None
                    if isinstance(node, ast.Subscript) and isinstance(node.ctx, ast.Store):
                        changed = node.value
                    if isinstance(node, ast.Attribute) and node.attr in changing:
                        changed = node.value
                    if isinstance(changed, ast.Name):
                        self.assertNotIn(changed.id, over, (name, node.lineno))


if __name__ == "__main__":
    unittest.main()
