"""The rules of form that can be seen from a syntax tree: files, imports, statements, names, sets."""

import ast
import builtins
import pathlib
import unittest

FOLDER = pathlib.Path(__file__).resolve().parent.parent / "parley"
FILES = sorted(FOLDER.glob("*.py"))
TREES = {path.stem: ast.parse(path.read_text()) for path in FILES}
BUILTINS = (
    "len range enumerate zip min max sum abs sorted reversed int str bool list tuple dict set isinstance ord repr any all"
    " divmod ValueError NotImplemented property"
).split()
METHODS = (
    "append clear copy count endswith extend find get index insert isalnum isalpha isdigit islower isspace isupper items"
    " join keys ljust lower lstrip partition pop remove replace reverse rfind rjust rpartition rsplit rstrip setdefault"
    " split splitlines startswith strip update upper values zfill add discard"
).split()
FORBIDDEN_NODES = (
    ast.Global, ast.AsyncFunctionDef, ast.AsyncFor, ast.AsyncWith, ast.Await, ast.Yield, ast.YieldFrom,
    ast.GeneratorExp, ast.Div, ast.MatMult, ast.Import, ast.AnnAssign, ast.Set, ast.Pow,
)
FORBIDDEN_NAMES = (
    "register mro elements open input law version_info with_traceback add_note attrgetter breakpoint builtins compile"
    " copyright credits delattr dir eval exec exit gc globals help id importlib license locals methodcaller os quit"
    " setattr super type vars sys"
).split()
FORBIDDEN_ATTRIBUTES = (
    "items keys values pop update append clear extend insert remove reverse setdefault sort args encode decode hex"
    " fromhex format format_map mro register elements open input law"
).split()


def nodes(kind):
    for stem, tree in TREES.items():
        for node in ast.walk(tree):
            if isinstance(node, kind):
                yield stem, node


def parents(tree):
    return {child: node for node in ast.walk(tree) for child in ast.iter_child_nodes(node)}


def called(node):
    return node.func.id if isinstance(node, ast.Call) and isinstance(node.func, ast.Name) else None


class FilesTest(unittest.TestCase):
    def test_folder_contains_only_files_of_python(self):
        found = sorted(path.name for path in FOLDER.iterdir() if path.name != "__pycache__")
        self.assertEqual(found, [path.name for path in FILES])
        self.assertIn("__init__.py", found)

    def test_characters_and_sizes(self):
        for path in FILES:
            text = path.read_bytes().decode("ascii")
            self.assertTrue(all(sign == "\n" or " " <= sign <= "~" for sign in text), path)
            lines = text.splitlines()
            self.assertLessEqual(len(lines), 399, path)
            self.assertLessEqual(max(map(len, lines)), 120, path)
            self.assertNotIn("_wall", text, path)

    def test_functions_have_at_most_forty_lines(self):
        for stem, node in nodes(ast.FunctionDef):
            self.assertLessEqual(node.end_lineno - node.lineno + 1, 40, (stem, node.name))


class ModulesTest(unittest.TestCase):
    def test_module_level(self):
        for stem, tree in TREES.items():
            self.assertIsNotNone(ast.get_docstring(tree), stem)
            bound = []
            for node in tree.body[1:]:
                self.assertIsInstance(node, (ast.ImportFrom, ast.FunctionDef, ast.ClassDef, ast.Assign), stem)
                if isinstance(node, ast.ImportFrom):
                    bound.extend(name.name for name in node.names)
                elif isinstance(node, ast.Assign):
                    self.assertEqual([type(target) for target in node.targets], [ast.Name], stem)
                    self.assertFalse([part for part in ast.walk(node.value) if isinstance(part, ast.Call)], stem)
                    bound.append(node.targets[0].id)
                else:
                    bound.append(node.name)
            self.assertEqual(len(bound), len(set(bound)), stem)

    def test_imports_name_the_defining_file_and_are_used(self):
        for stem, tree in TREES.items():
            read = {node.id for node in ast.walk(tree) if isinstance(node, ast.Name)}
            assigned = {node.id for node in ast.walk(tree) if isinstance(node, ast.Name) and isinstance(node.ctx, ast.Store)}
            assigned |= {node.arg for node in ast.walk(tree) if isinstance(node, ast.arg)}
            for node in ast.walk(tree):
                if isinstance(node, ast.ImportFrom):
                    self.assertIn(node, tree.body, stem)
                    self.assertEqual((node.level, node.module.split(".")[0]), (0, "parley"), stem)
                    for name in node.names:
                        self.assertIsNone(name.asname, stem)
                        self.assertIn(name.name, defined(node.module.split(".")[1]), stem)
                        self.assertIn(name.name, read, stem)
                        self.assertNotIn(name.name, assigned, stem)

    def test_imports_make_no_circle(self):
        links = {
            stem: [node.module.split(".")[1] for node in tree.body if isinstance(node, ast.ImportFrom)]
            for stem, tree in TREES.items()
        }
        while links:
            free = [stem for stem in links if not [to for to in links[stem] if to in links]]
            self.assertTrue(free, links)
            for stem in free:
                del links[stem]


def defined(stem):
    names = []
    for node in TREES[stem].body:
        if isinstance(node, (ast.FunctionDef, ast.ClassDef)):
            names.append(node.name)
        if isinstance(node, ast.Assign):
            names.append(node.targets[0].id)
    return names


class NodesTest(unittest.TestCase):
    def test_no_forbidden_nodes(self):
        for stem, node in nodes(FORBIDDEN_NODES):
            self.fail((stem, node.lineno if hasattr(node, "lineno") else "", type(node).__name__))

    def test_decorators(self):
        for stem, node in nodes((ast.FunctionDef, ast.ClassDef)):
            for decorator in node.decorator_list:
                self.assertEqual(ast.unparse(decorator), "property", (stem, node.name))

    def test_strings(self):
        for stem, node in nodes(ast.Constant):
            self.assertNotIsInstance(node.value, (float, complex), stem)
            if isinstance(node.value, str):
                self.assertNotIn("%", node.value, (stem, node.lineno))
                self.assertNotIn("type", node.value, (stem, node.lineno))

    def test_no_strings_in_braces(self):
        for stem, node in nodes(ast.FormattedValue):
            inside = [part for part in ast.walk(node.value) if isinstance(part, (ast.JoinedStr, ast.Constant))]
            self.assertFalse([part for part in inside if isinstance(getattr(part, "value", ""), str)], (stem, node.lineno))

    def test_raise_creates_its_error(self):
        for stem, node in nodes(ast.Raise):
            self.assertIn(called(node.exc), defined("errors"), (stem, node.lineno))

    def test_is_stands_beside_none_true_and_false(self):
        for stem, node in nodes(ast.Compare):
            for operator, right in zip(node.ops, node.comparators):
                if isinstance(operator, (ast.Is, ast.IsNot)):
                    self.assertIn(ast.unparse(right), ("None", "True", "False"), (stem, node.lineno))

    def test_no_two_lambdas_on_one_line(self):
        for stem, tree in TREES.items():
            lines = [node.lineno for node in ast.walk(tree) if isinstance(node, ast.Lambda)]
            self.assertEqual(len(lines), len(set(lines)), stem)

    def test_sort_keys_are_plain(self):
        for stem, node in nodes(ast.Call):
            if called(node) == "sorted":
                without = called(node.args[0]) != "set" or not node.keywords
                self.assertTrue(without, (stem, node.lineno))

    def test_default_values_are_plain(self):
        for stem, node in nodes(ast.arguments):
            for value in node.defaults + [value for value in node.kw_defaults if value is not None]:
                self.assertIsInstance(value, (ast.Constant, ast.Name), stem)


class NamesTest(unittest.TestCase):
    def test_builtins(self):
        for stem, node in nodes(ast.Name):
            if isinstance(node.ctx, ast.Load) and hasattr(builtins, node.id):
                self.assertIn(node.id, BUILTINS, (stem, node.lineno))

    def test_bound_names(self):
        for stem, tree in TREES.items():
            bound = [node.id for node in ast.walk(tree) if isinstance(node, ast.Name) and isinstance(node.ctx, ast.Store)]
            bound += [node.arg for node in ast.walk(tree) if isinstance(node, ast.arg)]
            bound += [node.name for node in tree.body if isinstance(node, (ast.FunctionDef, ast.ClassDef))]
            for name in bound:
                self.assertFalse(hasattr(builtins, name), (stem, name))
                self.assertNotIn(name, FORBIDDEN_NAMES, stem)
                self.assertFalse(name.startswith("__"), (stem, name))

    def test_called_methods_and_stored_attributes(self):
        own = []
        for _, node in nodes(ast.ClassDef):
            own.extend(method.name for method in node.body if isinstance(method, ast.FunctionDef))
        for stem, node in nodes(ast.Call):
            if isinstance(node.func, ast.Attribute):
                self.assertIn(node.func.attr, METHODS + own, (stem, node.lineno))
                if node.func.attr not in own:
                    self.assertEqual(node.keywords, [], (stem, node.lineno))
        for stem, node in nodes(ast.Attribute):
            if isinstance(node.ctx, ast.Store):
                self.assertNotIn(node.attr, FORBIDDEN_ATTRIBUTES, (stem, node.lineno))
                self.assertNotIn(node.attr, own, (stem, node.lineno))


class SetsTest(unittest.TestCase):
    def test_sets_are_sorted_measured_or_kept_in_a_local_variable(self):
        for tree in TREES.values():
            above = parents(tree)
            for node in ast.walk(tree):
                if called(node) == "set" or isinstance(node, ast.SetComp):
                    parent = above[node]
                    if isinstance(parent, ast.Assign):
                        self.check_kept(parent, above)
                    else:
                        self.assertIn(called(parent), ("sorted", "len"), node.lineno)

    def check_kept(self, assignment, above):
        self.assertIsInstance(assignment.targets[0], ast.Name)
        name = assignment.targets[0].id
        function = above[assignment]
        while not isinstance(function, ast.FunctionDef):
            function = above[function]
        for node in ast.walk(function):
            if isinstance(node, ast.Name) and node.id == name and node is not assignment.targets[0]:
                parent = above[node]
                fits = (
                    called(parent) in ("sorted", "len")
                    or isinstance(parent, ast.Attribute) and parent.attr in ("add", "discard")
                    or isinstance(parent, ast.Compare) and isinstance(parent.ops[0], (ast.In, ast.NotIn))
                )
                self.assertTrue(fits, (function.name, node.lineno))


if __name__ == "__main__":
    unittest.main()
