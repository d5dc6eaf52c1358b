"""The form of the package: those rules of the language document that can be read off mechanically."""

import ast
import builtins
import os
import unittest

import lettertrees

FOLDER = os.path.dirname(lettertrees.__file__)
LIBRARY = {
    "heapq": {"heappush", "heappop", "heapify", "heapreplace", "heappushpop"},
    "math": {"gcd", "lcm", "isqrt", "comb", "perm", "factorial"},
    "itertools": {"product", "combinations", "permutations", "chain", "accumulate", "pairwise", "islice",
                  "zip_longest"},
    "collections": {"defaultdict", "deque"},
    "__future__": {"annotations"},
}
BUILTINS = set("""
    len range enumerate zip min max sum abs sorted reversed int str bool bytes list tuple dict set frozenset isinstance
    ord repr any all divmod pow getattr hasattr setattr iter next type map object float super
    property staticmethod classmethod
    Exception ValueError TypeError KeyError IndexError LookupError ZeroDivisionError ArithmeticError OverflowError
    RuntimeError NotImplementedError AttributeError StopIteration NotImplemented
""".split())
METHODS = set("""
    append clear copy count endswith extend find get index insert isalnum isalpha isdigit islower isspace isupper items
    join keys ljust lower lstrip partition pop remove replace reverse rfind rjust rpartition rsplit rstrip setdefault
    split splitlines startswith strip update upper values zfill bit_length title capitalize swapcase casefold center
    expandtabs removeprefix removesuffix rindex isascii isdecimal isnumeric istitle isidentifier isprintable translate
    format sort add discard appendleft popleft extendleft rotate from_iterable maketrans
""".split())


BARRED = (r"^(register|mro|elements|open|input|law|version_info|with_traceback|add_note|type|typing|enum|Enum|Flag|"
          r"Generic|Protocol|ABC|namedtuple|exec|eval|exit|help|id|license|locals|vars|globals|compile|dir|super|quit|"
          r"(_wall|_pe_|_dcw_|_enum_|_cm_|_lay_|_law_|_stub_|_sre|_twin_re_).*|f_.*|tb_.*|co_.*)$")


def package_files():
    """The paths of the files of the package; Python's own store of compiled ones is passed by."""
    out = []
    for folder, _, names in os.walk(FOLDER):
        if os.path.basename(folder) != "__pycache__":
            out.extend([os.path.join(folder, name) for name in names])
    return sorted(out)


def texts():
    for path in package_files():
        with open(path, encoding="utf-8") as file:
            yield os.path.relpath(path, FOLDER), file.read()


def nodes(*kinds):
    for name, text in texts():
        for node in ast.walk(ast.parse(text)):
            if isinstance(node, kinds):
                yield f"{name}:{getattr(node, 'lineno', 0)}", node


class FormTest(unittest.TestCase):
    def test_files(self):
        for path in package_files():
            name = os.path.relpath(path, FOLDER)
            self.assertRegex(name, r"^([a-z0-9_]+/)*[a-z0-9_]+\.py$")
            self.assertNotRegex(os.path.basename(name), r"^(test|law_|site|conftest)")
        self.assertTrue(os.path.exists(os.path.join(FOLDER, "__init__.py")))

    def test_sizes(self):
        for name, text in texts():
            lines = text.split("\n")
            self.assertLessEqual(len(lines), 400, name)
            for number, line in enumerate(lines):
                self.assertLessEqual(len(line), 120, f"{name}:{number + 1}")
                self.assertRegex(line, r"^[ -~]*$", f"{name}:{number + 1}")
        for at, node in nodes(ast.FunctionDef):
            self.assertLessEqual(node.end_lineno - node.lineno + 1, 40, at)

    def test_imports(self):
        for at, node in nodes(ast.Import):
            self.assertEqual([alias.name for alias in node.names], ["sys"], at)
            self.assertTrue(at.startswith("__main__.py"), at)
        for at, node in nodes(ast.ImportFrom):
            self.assertEqual(node.level, 0, at)
            names = {alias.name for alias in node.names}
            self.assertNotIn("*", names, at)
            if node.module in LIBRARY:
                self.assertLessEqual(names, LIBRARY[node.module], at)
            else:
                self.assertTrue(node.module.startswith("lettertrees."), at)

    def test_builtins(self):
        for at, node in nodes(ast.Name):
            if not at.startswith("__main__.py"):
                self.assertFalse(hasattr(builtins, node.id) and node.id not in BUILTINS, f"{at} {node.id}")
                self.assertFalse(node.id.startswith("__"), at)

    def test_methods(self):
        own = {node.name for _, node in nodes(ast.FunctionDef)}
        own |= {node.attr for _, node in nodes(ast.Attribute) if isinstance(node.ctx, ast.Store)}
        for at, node in nodes(ast.Call):
            if isinstance(node.func, ast.Attribute) and not at.startswith("__main__.py"):
                self.assertIn(node.func.attr, own | METHODS, at)

    def test_statements_and_values(self):
        barred = (ast.AsyncFunctionDef, ast.AsyncFor, ast.AsyncWith, ast.Await, ast.Div, ast.MatMult)
        self.assertEqual([at for at, _ in nodes(*barred)], [])
        for at, node in nodes(ast.Constant):
            self.assertNotIsInstance(node.value, (float, complex), at)
        for at, node in nodes(ast.ClassDef):
            self.assertEqual(node.decorator_list, [], at)
        for at, node in nodes(ast.ExceptHandler):
            self.assertIsNotNone(node.type, at)

    def test_identity(self):
        for at, node in nodes(ast.Compare):
            for sign, side in zip(node.ops, node.comparators):
                if isinstance(sign, (ast.Is, ast.IsNot)):
                    self.assertIsInstance(side, ast.Constant, at)
                    self.assertIn(side.value, (None, True, False), at)

    def test_strings(self):
        for at, node in nodes(ast.Constant):
            if isinstance(node.value, str) and " " not in node.value:
                self.assertNotRegex(node.value, BARRED, at)
        for name, text in texts():
            self.assertNotIn("%", "".join([node.value for node in ast.walk(ast.parse(text))
                                           if isinstance(node, ast.Constant) and isinstance(node.value, str)]), name)

    def test_names(self):
        for at, node in nodes(ast.Name, ast.Attribute, ast.arg, ast.FunctionDef, ast.ClassDef):
            for field in ("id", "attr", "arg", "name"):
                self.assertNotRegex(getattr(node, field, ""), BARRED, at)
        for at, node in nodes(ast.FunctionDef):
            names = [one.arg for one in node.args.args] + [
                one.id for one in ast.walk(node) if isinstance(one, ast.Name) and isinstance(one.ctx, ast.Store)]
            for name in names:
                self.assertFalse(hasattr(builtins, name), f"{at} {name}")

    def test_one_binding_for_each_name(self):
        for name, text in texts():
            bound, used = [], set()
            for node in ast.parse(text).body:
                if isinstance(node, ast.ImportFrom):
                    bound += [alias.name for alias in node.names]
                elif isinstance(node, (ast.FunctionDef, ast.ClassDef)):
                    bound.append(node.name)
                elif isinstance(node, ast.Assign):
                    bound += [target.id for target in node.targets]
            self.assertEqual(len(bound), len(set(bound)), name)
            for node in ast.walk(ast.parse(text)):
                if isinstance(node, ast.Name) and isinstance(node.ctx, ast.Load):
                    used.add(node.id)
                if isinstance(node, ast.ImportFrom):
                    imported = [alias.name for alias in node.names]
                    stored = [one.id for one in ast.walk(ast.parse(text)) if isinstance(one, ast.Name)
                              and isinstance(one.ctx, ast.Store)]
                    stored += [one.arg for one in ast.walk(ast.parse(text)) if isinstance(one, ast.arg)]
                    self.assertFalse(set(imported) & set(stored), name)
            for node in ast.parse(text).body:
                if isinstance(node, ast.ImportFrom):
                    self.assertLessEqual({alias.name for alias in node.names}, used, name)

    def test_no_two_files_import_from_each_other(self):
        below = {}
        for name, text in texts():
            below["lettertrees." + name[:-3]] = {node.module for node in ast.walk(ast.parse(text))
                                                 if isinstance(node, ast.ImportFrom) and node.module not in LIBRARY}
        while below:
            free = [name for name in below if not below[name] & set(below)]
            self.assertTrue(free, below)
            for name in free:
                del below[name]

    def test_lists_where_objects_compare(self):
        # Trees and rules have an __eq__: these builtins take a list then, no generator expression.
        for at, node in nodes(ast.Call):
            if isinstance(node.func, ast.Name) and node.func.id in ("any", "all", "min", "max", "sum", "sorted"):
                self.assertFalse([one for one in node.args if isinstance(one, ast.GeneratorExp)], at)
        self.assertEqual([at for at, node in nodes(ast.Attribute) if node.attr == "sort"], [])


if __name__ == "__main__":
    unittest.main()
