"""The files of the package keep to the subset of the language that the program is written in."""

import ast
import builtins
import os
import re
import unittest

FOLDER = os.path.join(os.path.dirname(os.path.dirname(os.path.abspath(__file__))), "quiltward")

STATEMENTS = (ast.Assign, ast.AugAssign, ast.If, ast.While, ast.For, ast.Return, ast.Break, ast.Continue, ast.Pass,
              ast.Raise, ast.Assert, ast.Delete, ast.Expr, ast.FunctionDef, ast.ClassDef, ast.ImportFrom, ast.Try)
BARRED = (ast.Lambda, ast.Yield, ast.YieldFrom, ast.Await, ast.NamedExpr, ast.Starred, ast.Div, ast.MatMult,
          ast.AnnAssign, ast.Global, ast.Nonlocal, ast.With, ast.Match, ast.Pow)
BUILTINS = """len range enumerate zip min max sum abs sorted reversed int str bool list tuple dict set isinstance ord
any all next iter super ValueError""".split()
METHODS = """append count endswith extend find get index insert items join keys lstrip partition pop remove replace rfind rsplit
setdefault split startswith strip update values""".split()
LIBRARY = {"heapq": ("heappush", "heappop"), "itertools": ("combinations",)}
NOWHERE = """register mro elements open input law version_info with_traceback add_note type typing enum dataclass overload
contextmanager Enum Generic Protocol namedtuple""".split()
NO_NAMES = """attrgetter breakpoint builtins compile copyright credits delattr dir eval exec exit gc getattr globals
hasattr help id importlib license locals methodcaller os quit setattr super type vars sys""".split()
NO_FILES = "test tests testing site conftest sitecustomize usercustomize".split()
CHANGES = "append clear extend insert pop remove reverse setdefault update sort add discard".split()


def sources():
    """The text and the tree of each file, by its name without the ending."""
    rows = {}
    for word in sorted(os.listdir(FOLDER)):
        if word.endswith(".py"):
            with open(os.path.join(FOLDER, word), "rb") as source:
                text = source.read().decode("ascii")
            rows[word[:-3]] = (text, ast.parse(text))
    return rows


SOURCES = sources()


def nodes():
    """All nodes, each with the name of its file."""
    return [(word, node) for word, (_, tree) in SOURCES.items() for node in ast.walk(tree)]


def functions():
    return [(word, node) for word, node in nodes() if isinstance(node, ast.FunctionDef)]


def locals_of(function):
    """The parameters and local variables of a function."""
    found = {arg.arg for arg in ast.walk(function.args) if isinstance(arg, ast.arg)}
    return found | {node.id for node in ast.walk(function) if isinstance(node, ast.Name) and isinstance(node.ctx, ast.Store)}


def is_plain(node):
    """Whether a value at module level is plain, with no list or dict inside another value."""
    if isinstance(node, ast.Constant):
        return isinstance(node.value, (int, str)) or node.value is None
    if isinstance(node, ast.UnaryOp):
        return isinstance(node.op, ast.USub) and is_plain(node.operand)
    parts = node.elts if isinstance(node, (ast.List, ast.Tuple)) else node.keys + node.values \
        if isinstance(node, ast.Dict) else [node]
    return all(not isinstance(part, (ast.List, ast.Dict)) and part is not node and is_plain(part) for part in parts)


def docstrings(tree):
    """The nodes of the docstrings of a tree."""
    return [node.body[0].value for node in ast.walk(tree) if isinstance(node, (ast.Module, ast.ClassDef, ast.FunctionDef))
            and node.body and isinstance(node.body[0], ast.Expr) and isinstance(node.body[0].value, ast.Constant)]


class FilesTest(unittest.TestCase):
    def test_files(self):
        self.assertLessEqual(len(SOURCES), 100)
        for word in os.listdir(FOLDER):
            self.assertTrue(word == "__pycache__" or re.fullmatch(r"(__init__|[a-z][a-z0-9_]*)\.py", word), word)
            self.assertNotIn(word[:-3], NO_FILES + dir(builtins))
        self.assertIn("__init__", SOURCES)

    def test_sizes_and_signs(self):
        for word, (text, _) in SOURCES.items():
            lines = text.split("\n")
            self.assertLessEqual(len(lines) - 1, 399, word)
            self.assertTrue(text.endswith("\n") and not text.endswith("\n\n"), word)
            for line in lines:
                self.assertLessEqual(len(line), 120, (word, line))
                self.assertTrue(all(" " <= sign <= "~" for sign in line) and line == line.rstrip(), (word, line))

    def test_functions_are_small(self):
        for word, node in functions():
            self.assertLessEqual(node.end_lineno - node.lineno + 1, 40, (word, node.name))

    def test_imports(self):
        defined = {word: {node.name for node in tree.body if isinstance(node, (ast.FunctionDef, ast.ClassDef))}
                   | {node.targets[0].id for node in tree.body if isinstance(node, ast.Assign)}
                   for word, (_, tree) in SOURCES.items()}
        links = {word: set() for word in SOURCES}
        for word, (_, tree) in SOURCES.items():
            body = tree.body[1:] if docstrings(tree) else tree.body
            kinds = [isinstance(node, (ast.Import, ast.ImportFrom)) for node in body]
            self.assertEqual(kinds, sorted(kinds, reverse=True), word)
            for node in [node for node in ast.walk(tree) if isinstance(node, (ast.Import, ast.ImportFrom))]:
                self.assertIn(node, body)
                self.assertTrue(isinstance(node, ast.ImportFrom) and node.level == 0, word)
                self.assertFalse([alias for alias in node.names if alias.asname], word)
                if node.module in LIBRARY:
                    self.assertLessEqual({alias.name for alias in node.names}, set(LIBRARY[node.module]))
                    continue
                package, other = node.module.split(".")
                self.assertEqual(package, "quiltward")
                links[word].add(other)
                self.assertLessEqual({alias.name for alias in node.names}, defined[other], word)
        left = dict(links)
        while left:
            ready = [word for word in left if not links[word] & set(left)]
            self.assertTrue(ready, "files import from each other")
            for word in ready:
                del left[word]

    def test_each_import_is_used(self):
        for word, (_, tree) in SOURCES.items():
            used = {node.id for node in ast.walk(tree) if isinstance(node, ast.Name)}
            for node in tree.body:
                if isinstance(node, ast.ImportFrom):
                    self.assertLessEqual({alias.name for alias in node.names}, used, word)

    def test_module_level(self):
        for word, (_, tree) in SOURCES.items():
            bound = []
            for node in tree.body[1:]:
                if isinstance(node, ast.Assign):
                    self.assertTrue(len(node.targets) == 1 and isinstance(node.targets[0], ast.Name), word)
                    self.assertTrue(is_plain(node.value), word)
                    bound.append(node.targets[0].id)
                elif isinstance(node, ast.ImportFrom):
                    bound.extend(alias.name for alias in node.names)
                else:
                    self.assertIsInstance(node, (ast.FunctionDef, ast.ClassDef))
                    bound.append(node.name)
            self.assertEqual(len(bound), len(set(bound)), word)

    def test_docstrings(self):
        for word, (_, tree) in SOURCES.items():
            parts = [node for node in ast.walk(tree) if isinstance(node, (ast.Module, ast.ClassDef, ast.FunctionDef))]
            told = [node for node in parts if ast.get_docstring(node)]
            bare = [node.name for node in parts if node not in told and node.name != "__init__"]
            self.assertEqual(bare, [], word)


class CodeTest(unittest.TestCase):
    def test_statements_and_expressions(self):
        for word, node in nodes():
            if isinstance(node, ast.stmt):
                self.assertIsInstance(node, STATEMENTS, word)
            self.assertNotIsInstance(node, BARRED, word)
            if isinstance(node, (ast.FunctionDef, ast.ClassDef)):
                self.assertEqual(node.decorator_list, [], word)
            if isinstance(node, ast.FunctionDef):
                self.assertIsNone(node.returns)
                self.assertFalse(node.args.kwonlyargs or node.args.vararg or node.args.kwarg or node.args.posonlyargs)
            if isinstance(node, ast.arg):
                self.assertIsNone(node.annotation)
            if isinstance(node, ast.Constant):
                self.assertTrue(node.value is None or isinstance(node.value, (int, str)), word)

    def test_functions_stand_at_module_level_or_in_a_class(self):
        for word, (_, tree) in SOURCES.items():
            outer = tree.body + [part for node in tree.body if isinstance(node, ast.ClassDef) for part in node.body]
            for node in ast.walk(tree):
                if isinstance(node, ast.FunctionDef):
                    self.assertIn(node, outer, word)

    def test_names(self):
        for word, node in nodes():
            names = [getattr(node, part) for part in ("id", "name", "attr", "arg") if isinstance(getattr(node, part, None), str)]
            for name in names:
                self.assertRegex(name, r"^(_|[A-Za-z][A-Za-z0-9_]*|__init__)$", word)
                self.assertNotIn(name, NOWHERE, word)
        for word, node in functions():
            for name in locals_of(node):
                self.assertNotIn(name, dir(builtins) + NO_NAMES, (word, node.name))
        for word, (_, tree) in SOURCES.items():
            taken = {alias.name for node in tree.body if isinstance(node, ast.ImportFrom) for alias in node.names}
            taken |= {node.name for node in tree.body if isinstance(node, (ast.ClassDef, ast.FunctionDef))}
            for node in ast.walk(tree):
                if isinstance(node, ast.FunctionDef):
                    self.assertFalse(locals_of(node) & taken, (word, node.name))
            for name in taken:
                self.assertNotIn(name, dir(builtins) + NO_NAMES, word)

    def test_an_underscore_is_never_read(self):
        for word, node in nodes():
            if isinstance(node, ast.Name) and node.id == "_":
                self.assertIsInstance(node.ctx, ast.Store, word)

    def test_builtins(self):
        for word, node in nodes():
            if isinstance(node, ast.Name) and node.id in dir(builtins):
                self.assertIn(node.id, BUILTINS, word)
        for word, node in nodes():
            if isinstance(node, ast.Call) and isinstance(node.func, ast.Name) and node.func.id in dir(builtins):
                told = {(node.func.id, key.arg) for key in node.keywords}
                self.assertLessEqual(told, {("max", "default"), ("min", "default"), ("enumerate", "start")}, word)

    def test_iterators_are_iterated_at_once(self):
        for word, (_, tree) in SOURCES.items():
            allowed = []
            for node in ast.walk(tree):
                if isinstance(node, (ast.For, ast.comprehension)):
                    allowed.append(node.iter)
                if isinstance(node, ast.Call) and isinstance(node.func, ast.Name) and node.func.id in ("list", "next", "sum"):
                    allowed.extend(node.args[:1])
                if isinstance(node, ast.Call) and isinstance(node.func, ast.Name) and node.func.id == "reversed" \
                        and isinstance(node.args[0], ast.Call) and node.args[0].func.id == "range":
                    allowed.extend(node.args)
            for node in ast.walk(tree):
                if isinstance(node, ast.Call) and isinstance(node.func, ast.Name) \
                        and node.func.id in ("zip", "enumerate", "reversed", "range", "iter", "combinations"):
                    self.assertIn(node, allowed, word)
                if isinstance(node, ast.Call) and isinstance(node.func, ast.Attribute) \
                        and node.func.attr in ("items", "keys", "values"):
                    self.assertIn(node, allowed, word)

    def test_generator_expressions(self):
        for word, (_, tree) in SOURCES.items():
            allowed = [node.args[0] for node in ast.walk(tree) if isinstance(node, ast.Call) and len(node.args) == 1
                       and isinstance(node.func, ast.Name) and node.func.id in ("any", "all")]
            for node in ast.walk(tree):
                if isinstance(node, ast.GeneratorExp):
                    self.assertIn(node, allowed, word)

    def test_sets_are_sorted_at_once(self):
        for word, (_, tree) in SOURCES.items():
            allowed = []
            for node in ast.walk(tree):
                if isinstance(node, ast.Call) and isinstance(node.func, ast.Name) and node.func.id in ("sorted", "len"):
                    self.assertEqual((len(node.args), node.keywords), (1, []), word)
                    allowed.append(node.args[0])
                    if isinstance(node.args[0], ast.BinOp):
                        allowed.extend([node.args[0].left, node.args[0].right])
            for node in ast.walk(tree):
                is_set = isinstance(node, ast.Call) and isinstance(node.func, ast.Name) and node.func.id in ("set", "frozenset")
                if is_set or isinstance(node, (ast.Set, ast.SetComp)):
                    self.assertIn(node, allowed, word)

    def test_loops_do_not_change_what_they_iterate_over(self):
        for word, node in nodes():
            if isinstance(node, ast.For):
                over = {part.id for part in ast.walk(node.iter) if isinstance(part, ast.Name)}
                for part in [part for statement in node.body for part in ast.walk(statement)]:
                    base = None
                    if isinstance(part, ast.Call) and isinstance(part.func, ast.Attribute) and part.func.attr in CHANGES:
                        base = part.func.value
                    if isinstance(part, (ast.Subscript, ast.Attribute)) and isinstance(part.ctx, (ast.Store, ast.Del)):
                        base = part.value
                    if isinstance(part, ast.Call) and isinstance(part.func, ast.Name) and part.func.id.startswith("heap"):
                        base = part.args[0]
                    if isinstance(base, ast.Name) and not isinstance(node.iter, (ast.ListComp,)):
                        self.assertNotIn(base.id, over - {"self"}, (word, node.lineno))

    def test_methods(self):
        own = {part.name for _, node in nodes() if isinstance(node, ast.ClassDef) for part in node.body
               if isinstance(part, ast.FunctionDef)}
        for word, node in nodes():
            if isinstance(node, ast.Call) and isinstance(node.func, ast.Attribute):
                self.assertIn(node.func.attr, set(METHODS) | own, word)
                self.assertFalse(node.keywords, word)

    def test_classes(self):
        known = {node.name for _, node in nodes() if isinstance(node, ast.ClassDef)}
        attributes = {node.attr for _, node in nodes() if isinstance(node, ast.Attribute) and isinstance(node.ctx, ast.Store)}
        methods = set()
        for word, node in nodes():
            if isinstance(node, ast.ClassDef):
                self.assertTrue(all(base.id in known | {"ValueError"} for base in node.bases), node.name)
                defined = [part.name for part in node.body if isinstance(part, ast.FunctionDef)]
                methods |= set(defined)
                self.assertEqual(len(defined), len(set(defined)), node.name)
                self.assertFalse([name for name in defined if name.startswith("_") and name != "__init__"])
                for part in node.body:
                    self.assertIsInstance(part, (ast.FunctionDef, ast.Expr), node.name)
                given = {part.attr for part in ast.walk(node) if isinstance(part, ast.Attribute)
                         and isinstance(part.ctx, ast.Store)}
                self.assertFalse(given & set(defined), node.name)
        for word, node in nodes():
            if isinstance(node, ast.Attribute) and isinstance(node.ctx, ast.Load):
                self.assertIn(node.attr, attributes | methods | set(METHODS), word)

    def test_super_calls_a_method_of_the_class_above(self):
        for word, (_, tree) in SOURCES.items():
            allowed = []
            for node in ast.walk(tree):
                if isinstance(node, ast.Call) and isinstance(node.func, ast.Attribute) \
                        and isinstance(node.func.value, ast.Call) and not node.func.attr.startswith("_"):
                    allowed.append(node.func.value)
            for node in ast.walk(tree):
                if isinstance(node, ast.Call) and isinstance(node.func, ast.Name) and node.func.id == "super":
                    self.assertIn(node, allowed, word)
                    self.assertFalse(node.args or node.keywords, word)

    def test_identity_and_raising(self):
        for word, node in nodes():
            if isinstance(node, ast.Compare):
                for sign, part in zip(node.ops, node.comparators):
                    if isinstance(sign, (ast.Is, ast.IsNot)):
                        self.assertTrue(isinstance(part, ast.Constant) and part.value in (None, True, False), word)
            if isinstance(node, ast.Raise):
                self.assertTrue(isinstance(node.exc, ast.Call) and node.exc.func.id.endswith("Error"), word)

    def test_only_own_errors_are_caught(self):
        own = {node.name for node in SOURCES["errors"][1].body if isinstance(node, ast.ClassDef)}
        for word, node in nodes():
            if isinstance(node, ast.Try):
                self.assertFalse(node.finalbody, word)
            if isinstance(node, ast.ExceptHandler):
                self.assertIn(node.type.id, own, word)
        for word, node in functions():
            caught = [part.name for part in ast.walk(node) if isinstance(part, ast.ExceptHandler) and part.name]
            self.assertEqual(len(caught), len(set(caught)), word)
            self.assertFalse(set(caught) & locals_of(node), word)

    def test_no_name_is_a_method_and_an_attribute(self):
        methods = {part.name for _, node in nodes() if isinstance(node, ast.ClassDef) for part in node.body
                   if isinstance(part, ast.FunctionDef)}
        for word, node in nodes():
            if isinstance(node, ast.Attribute) and isinstance(node.ctx, ast.Store):
                self.assertNotIn(node.attr, methods, word)

    def test_what_is_kept_in_a_loop_is_not_in_its_head(self):
        for word, node in nodes():
            if isinstance(node, ast.For):
                over = {ast.dump(part) for part in ast.walk(node.iter) if isinstance(part, ast.Attribute)}
                for part in [part for statement in node.body for part in ast.walk(statement)]:
                    if isinstance(part, ast.Call) and isinstance(part.func, ast.Attribute) and part.func.attr in CHANGES:
                        self.assertNotIn(ast.dump(part.func.value), over, (word, node.lineno))

    def test_strings(self):
        for word, (text, tree) in SOURCES.items():
            told = docstrings(tree)
            for node in ast.walk(tree):
                if isinstance(node, ast.Constant) and isinstance(node.value, str):
                    self.assertNotIn("%", node.value, word)
                    self.assertFalse(node.value.startswith("__") or node.value.endswith(("._", ".__")), word)
                    if node not in told:
                        self.assertFalse(set(re.findall(r"\w+", node.value)) & set(NOWHERE), word)
                if isinstance(node, ast.JoinedStr):
                    inner = [part for piece in node.values if isinstance(piece, ast.FormattedValue)
                             for part in ast.walk(piece.value)]
                    self.assertFalse([part for part in inner if isinstance(part, ast.Constant)
                                      and isinstance(part.value, str)], word)
            self.assertFalse(set(re.findall(r"\\.", text)) - {"\\n", "\\t", "\\\\", "\\\"", "\\'"}, word)


if __name__ == "__main__":
    unittest.main()
