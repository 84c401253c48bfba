"""The rules of LANGUAGE.md that can be seen in the text of the program.

The checks are narrower than the rules: a part of Python that the package does
not use yet is reported, so that whoever uses it first looks up its rule and
then widens the list here.
"""

import ast
import builtins
import pathlib
import unittest
import warnings

FOLDER = pathlib.Path(__file__).resolve().parent.parent / "codenests"
FILES = sorted(FOLDER.glob("*.py"))

NODES = set("""
    Module Expr Import ImportFrom alias FunctionDef arguments arg ClassDef Return Assign AugAssign For While If
    Raise Try ExceptHandler Break Continue Pass Constant Name Load Store Attribute Subscript Slice Call Tuple List
    Dict ListComp SetComp comprehension BinOp Add Sub Mult FloorDiv Mod BitAnd LShift UnaryOp USub Not BoolOp And Or IfExp Compare Eq NotEq Lt
    LtE Gt GtE Is IsNot In NotIn
""".split())

BUILTINS = set("""
    len range enumerate zip min max sum abs sorted reversed int str bool list tuple dict isinstance any all divmod
    ValueError LookupError
""".split())

METHODS = set("append extend insert pop reverse index count join get setdefault copy items values".split())

DUNDERS = {"__init__", "__eq__"}

BARRED = set("""
    register mro elements open input law version_info with_traceback add_note attrgetter breakpoint builtins compile
    copyright credits delattr dir eval exec exit gc getattr globals hasattr help id importlib license locals
    methodcaller os quit setattr super type vars sys typing enum Generic Protocol namedtuple dataclass iter next map
    _cold _tuplegetter _outside _record _written_out _member_names
""".split())

BARRED_STARTS = ("__", "_wall", "_pe_", "_dcw_", "_enum_", "_cm_", "_twin_re_", "_lay_", "_law_", "_stub_", "_sre")

LIBRARY = {"itertools": {"combinations"}, "math": {"gcd"}}

ITERATED_AT_ONCE = {"zip", "enumerate", "reversed"}

VIEWS = {"items", "keys", "values"}


def tree_of(file):
    return ast.parse(file.read_text(encoding="ascii"))


def functions_of(tree):
    return [node for node in ast.walk(tree) if isinstance(node, ast.FunctionDef)]


def imports_of(tree):
    return [node for node in tree.body if isinstance(node, ast.ImportFrom)]


def bound_in(function):
    """The names of the parameters and local variables of a function."""
    stored = {node.id for node in ast.walk(function) if isinstance(node, ast.Name) and isinstance(node.ctx, ast.Store)}
    handlers = {node.name for node in ast.walk(function) if isinstance(node, ast.ExceptHandler) and node.name}
    return stored | handlers | {node.arg for node in ast.walk(function) if isinstance(node, ast.arg)}


def defined_in(tree):
    """The names of the functions, classes and values at module level."""
    found = [node.name for node in tree.body if isinstance(node, (ast.FunctionDef, ast.ClassDef))]
    return found + [node.targets[0].id for node in tree.body if isinstance(node, ast.Assign)]


def called(node):
    """The bare name that is called, or None."""
    return node.func.id if isinstance(node, ast.Call) and isinstance(node.func, ast.Name) else None


def is_plain(node):
    try:
        ast.literal_eval(node)
    except ValueError:
        return False
    return True


def is_table_of(node, functions):
    """Whether a node is a dict that has functions of this file, by words."""
    if not isinstance(node, ast.Dict) or not all(isinstance(value, ast.Name) for value in node.values):
        return False
    return all(map(is_plain, node.keys)) and {value.id for value in node.values} <= set(functions)


class Files(unittest.TestCase):
    def test_the_folder(self):
        names = {one.name for one in FOLDER.iterdir()} - {"__pycache__"}
        self.assertEqual(names, {file.name for file in FILES})
        self.assertIn("__init__.py", names)
        self.assertLessEqual(len(FILES), 100)
        for file in FILES:
            self.assertRegex(file.name, r"^([a-z][a-z0-9_]*|__init__|__main__)\.py$")

    def test_characters_and_sizes(self):
        for file in FILES:
            text = file.read_bytes().decode("ascii")
            self.assertTrue(all(sign == "\n" or " " <= sign <= "~" for sign in text), file.name)
            lines = text.split("\n")
            self.assertLessEqual(len(lines), 399, file.name)
            self.assertLessEqual(max(map(len, lines)), 120, file.name)
            for function in functions_of(ast.parse(text)):
                self.assertLessEqual(function.end_lineno - function.lineno + 1, 40, function.name)

    def test_python_warns_of_nothing(self):
        with warnings.catch_warnings():
            warnings.simplefilter("error")
            for file in FILES:
                compile(file.read_text(encoding="ascii"), file.name, "exec")


class Modules(unittest.TestCase):
    def test_module_level(self):
        for file in FILES:
            tree = tree_of(file)
            self.assertTrue(ast.get_docstring(tree), file.name)
            imports_are_over = False
            for node in tree.body[1:]:
                where = (file.name, node.lineno)
                self.assertIsInstance(node, (ast.ImportFrom, ast.FunctionDef, ast.ClassDef, ast.Assign), where)
                self.assertFalse(imports_are_over and isinstance(node, ast.ImportFrom), where)
                imports_are_over = not isinstance(node, ast.ImportFrom)
                if isinstance(node, ast.Assign):
                    self.assertTrue(len(node.targets) == 1 and isinstance(node.targets[0], ast.Name), where)
                    above = [one.name for one in functions_of(tree) if one.lineno < node.lineno]
                    self.assertTrue(is_plain(node.value) or is_table_of(node.value, above), where)

    def test_imports_name_the_file_that_defines(self):
        defined = {"codenests." + file.stem: defined_in(tree_of(file)) for file in FILES}
        for file in FILES:
            for node in imports_of(tree_of(file)):
                names = [one.name for one in node.names]
                self.assertTrue(all(one.asname is None for one in node.names), file.name)
                self.assertEqual(node.level, 0, file.name)
                known = LIBRARY[node.module] if node.module in LIBRARY else defined[node.module]
                self.assertEqual([name for name in names if name not in known], [], file.name)

    def test_imports_are_used_and_go_round_nowhere(self):
        reads = {}
        for file in FILES:
            tree = tree_of(file)
            used = {node.id for node in ast.walk(tree) if isinstance(node, ast.Name)}
            for node in imports_of(tree):
                self.assertEqual([one.name for one in node.names if one.name not in used], [], file.name)
            reads[file.stem] = {node.module.split(".")[-1] for node in imports_of(tree)} - set(LIBRARY)
        while reads:
            ready = [name for name, others in reads.items() if not others & set(reads)]
            self.assertTrue(ready, reads)
            reads = {name: others for name, others in reads.items() if name not in ready}

    def test_each_name_is_bound_once(self):
        for file in FILES:
            tree = tree_of(file)
            names = defined_in(tree) + [one.name for node in imports_of(tree) for one in node.names]
            self.assertEqual(len(names), len(set(names)), file.name)
            self.assertEqual([name for name in names if hasattr(builtins, name)], [], file.name)


class Code(unittest.TestCase):
    def test_parts_of_python(self):
        for file in FILES:
            for node in ast.walk(tree_of(file)):
                where = (file.name, getattr(node, "lineno", None))
                self.assertIn(type(node).__name__, NODES, where)
                if isinstance(node, (ast.FunctionDef, ast.ClassDef)):
                    self.assertEqual(node.decorator_list, [], where)
                if isinstance(node, ast.Constant):
                    self.assertIn(type(node.value), (int, str, bool, type(None)), where)
                if isinstance(node, ast.Compare) and isinstance(node.ops[0], (ast.Is, ast.IsNot)):
                    self.assertIsInstance(node.comparators[0], ast.Constant, where)
                if isinstance(node, ast.Call):
                    self.assertEqual(node.keywords, [], where)
                    self.assertIsInstance(node.func, (ast.Name, ast.Attribute), where)
                if isinstance(node, ast.Raise):
                    self.assertTrue(node.cause is None and called(node.exc), where)

    def test_strings(self):
        for file in FILES:
            tree = tree_of(file)
            told = [node.body[0].value for node in ast.walk(tree)
                    if isinstance(node, (ast.Module, ast.FunctionDef, ast.ClassDef)) and ast.get_docstring(node)]
            for node in ast.walk(tree):
                if isinstance(node, ast.Constant) and isinstance(node.value, str) and node not in told:
                    self.assertFalse("%" in node.value or "type" in node.value or "__" in node.value, file.name)

    def test_names(self):
        for file in FILES:
            tree = tree_of(file)
            imported = {one.name for node in imports_of(tree) for one in node.names}
            classes = {node.name for node in tree.body if isinstance(node, ast.ClassDef)}
            top = imported | set(defined_in(tree))
            for function in functions_of(tree):
                bound = bound_in(function)
                where = (file.name, function.name)
                self.assertEqual(bound & (imported | classes), set(), where)
                self.assertEqual({name for name in bound if hasattr(builtins, name)}, set(), where)
                read = {node.id for node in ast.walk(function) if isinstance(node, ast.Name)} - bound
                self.assertEqual(read - top - BUILTINS, set(), where)
                self.assertFalse(any(isinstance(node, ast.Name) and node.id == "_" and isinstance(node.ctx, ast.Load)
                                     for node in ast.walk(function)), where)
                for name in bound | ({function.name} - DUNDERS):
                    self.assertFalse(name in BARRED or name.startswith(BARRED_STARTS), where + (name,))

    def test_attributes(self):
        trees = [tree_of(file) for file in FILES]
        classes = [node for tree in trees for node in ast.walk(tree) if isinstance(node, ast.ClassDef)]
        methods = {one.name for node in classes for one in functions_of(node)}
        assigned = {node.attr for tree in trees for node in ast.walk(tree)
                    if isinstance(node, ast.Attribute) and isinstance(node.ctx, ast.Store)}
        for tree in trees:
            calls = [node.func for node in ast.walk(tree)
                     if isinstance(node, ast.Call) and isinstance(node.func, ast.Attribute)]
            for node in ast.walk(tree):
                if isinstance(node, ast.Attribute):
                    known = METHODS | methods if node in calls else assigned
                    self.assertIn(node.attr, known)
        self.assertEqual({name for name in methods if name.startswith("__")} - DUNDERS, set())
        self.assertEqual(assigned & (BARRED | METHODS), set())

    def test_methods_and_attributes_of_a_class_differ(self):
        for file in FILES:
            for node in ast.walk(tree_of(file)):
                if isinstance(node, ast.ClassDef):
                    names = [one.name for one in node.body if isinstance(one, ast.FunctionDef)]
                    self.assertEqual(len(names), len(set(names)), node.name)
                    kept = {one.attr for one in ast.walk(node)
                            if isinstance(one, ast.Attribute) and isinstance(one.ctx, ast.Store)}
                    self.assertEqual(kept & set(names), set(), node.name)

    def test_what_is_iterated_at_once(self):
        for file in FILES:
            tree = tree_of(file)
            heads = [node.iter for node in ast.walk(tree) if isinstance(node, (ast.For, ast.comprehension))]
            taken = [node.args[0] for node in ast.walk(tree) if called(node) in {"list", "sum", "sorted"}]
            for node in ast.walk(tree):
                if called(node) in ITERATED_AT_ONCE | LIBRARY["itertools"]:
                    self.assertTrue(node in heads, (file.name, node.lineno))
                if isinstance(node, ast.Call) and isinstance(node.func, ast.Attribute) and node.func.attr in VIEWS:
                    self.assertTrue(node in heads + taken, (file.name, node.lineno))

    def test_sets_are_sorted_at_once(self):
        for file in FILES:
            tree = tree_of(file)
            taken = [node.args[0] for node in ast.walk(tree) if called(node) == "sorted"]
            for node in ast.walk(tree):
                if isinstance(node, ast.SetComp):
                    self.assertTrue(node in taken, (file.name, node.lineno))

    def test_names_of_the_library_are_only_called(self):
        for file in FILES:
            tree = tree_of(file)
            names = {one.name for node in imports_of(tree) if node.module in LIBRARY for one in node.names}
            functions = [node.func for node in ast.walk(tree) if isinstance(node, ast.Call)]
            for node in ast.walk(tree):
                if isinstance(node, ast.Name) and node.id in names:
                    self.assertTrue(node in functions, (file.name, node.lineno))
