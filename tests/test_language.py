"""Those rules of the language that can be seen in the files of the package, one by one."""

import ast
import builtins
import os
import unittest

from helpers import HERE

PACKAGE = os.path.join(os.path.dirname(HERE), "sevenasone")
BUILTINS = set("""len range enumerate zip min max sum abs sorted reversed int str bool list tuple dict set isinstance repr
any all divmod ValueError staticmethod property super NotImplemented""".split())
METHODS = set("""append count endswith extend find get index insert isalnum isalpha isdigit items join keys partition pop
remove replace reverse rpartition setdefault split startswith strip update values zfill bit_length isascii removeprefix
add discard""".split())
DUNDERS = {"__init__", "__eq__", "__str__", "__repr__", "__len__", "__bool__"}
NOT_USED = set("""register mro elements open input law version_info with_traceback add_note typing enum Enum Generic
Protocol dataclass overload namedtuple attrgetter builtins compile copyright credits delattr dir eval exec exit gc globals
help id importlib license locals methodcaller os quit setattr vars""".split())
LIBRARY = {("math", "lcm")}
BARRED = (ast.AsyncFunctionDef, ast.Await, ast.Global, ast.With, ast.GeneratorExp, ast.Yield, ast.YieldFrom,
          ast.Div, ast.AnnAssign, ast.Match, ast.NamedExpr)


def sources():
    for name in sorted(os.listdir(PACKAGE)):
        if name != "__pycache__":
            with open(os.path.join(PACKAGE, name), encoding="utf-8") as file:
                yield name, file.read()


def trees():
    return [(name, ast.parse(source)) for name, source in sources()]


def own_names(tree):
    """The names that a file binds at module level by def, class or an assignment."""
    found = [node.name for node in tree.body if isinstance(node, (ast.FunctionDef, ast.ClassDef))]
    return found + [node.targets[0].id for node in tree.body if isinstance(node, ast.Assign)]


def imported(tree):
    return [(node.module, alias.name) for node in tree.body if isinstance(node, ast.ImportFrom) for alias in node.names]


def nodes(tree, *kinds):
    return [node for node in ast.walk(tree) if isinstance(node, kinds)]


class Language(unittest.TestCase):
    def test_files(self):
        for name, source in sources():
            self.assertRegex(name, r"\A(__init__|[a-z][a-z0-9_]*)\.py\Z")
            self.assertRegex(source, r"\A[ -~\n]*\Z", name)
            lines = source.split("\n")
            self.assertLessEqual(len(lines), 399, name)
            self.assertLessEqual(max(map(len, lines)), 120, name)

    def test_functions_are_short(self):
        for name, tree in trees():
            for node in nodes(tree, ast.FunctionDef):
                self.assertLessEqual(node.end_lineno - node.lineno + 1, 40, (name, node.name))
                decorators = [ast.unparse(one) for one in node.decorator_list]
                self.assertTrue(set(decorators) <= {"staticmethod"} and len(decorators) <= 1, (name, node.name))
                self.assertIsNone(node.returns)
                if node.name.startswith("__"):
                    self.assertIn(node.name, DUNDERS, name)

    def test_module_level(self):
        for name, tree in trees():
            for place, node in enumerate(tree.body):
                doc = place == 0 and isinstance(node, ast.Expr) and isinstance(node.value, ast.Constant)
                self.assertTrue(doc or isinstance(node, (ast.ImportFrom, ast.FunctionDef, ast.ClassDef, ast.Assign)), name)
                if isinstance(node, ast.Assign):
                    ast.literal_eval(node.value)
            names = own_names(tree) + [bound for _, bound in imported(tree)]
            self.assertEqual(len(names), len(set(names)), name)

    def test_imports(self):
        defined = {"sevenasone." + name[:-3]: own_names(tree) for name, tree in trees()}
        reached = {}
        for name, tree in trees():
            self.assertFalse(nodes(tree, ast.Import), name)
            self.assertTrue(all(node in tree.body for node in nodes(tree, ast.ImportFrom)), name)
            for module, bound in imported(tree):
                used = [node.id for node in nodes(tree, ast.Name)]
                self.assertIn(bound, used, name)
                if (module, bound) not in LIBRARY:
                    self.assertIn(bound, defined[module], name)
            reached["sevenasone." + name[:-3]] = {module for module, _ in imported(tree)}
        while any(reached.values()):
            free = [module for module, others in reached.items() if not others & set(reached)]
            self.assertTrue(free, "files import from each other")
            for module in free:
                del reached[module]

    def test_what_is_barred(self):
        for name, tree in trees():
            self.assertFalse(nodes(tree, *BARRED), name)
            for node in nodes(tree, ast.Constant):
                self.assertNotIsInstance(node.value, float)
                if isinstance(node.value, str):
                    self.assertNotIn("%", node.value)
            for node in nodes(tree, ast.BinOp):
                if isinstance(node.op, ast.Pow):
                    self.assertTrue(isinstance(node.right, ast.Constant) and 0 <= node.right.value <= 64, name)
            for node in nodes(tree, ast.arg):
                self.assertIsNone(node.annotation)

    def test_only_errors_of_the_package_are_caught(self):
        own = {node.name for name, tree in trees() if name == "errors.py" for node in nodes(tree, ast.ClassDef)}
        for name, tree in trees():
            for node in nodes(tree, ast.Try):
                self.assertFalse(node.finalbody, name)
            for node in nodes(tree, ast.ExceptHandler):
                self.assertTrue({one.id for one in nodes(node.type, ast.Name)} <= own, name)

    def test_no_plain_sums_and_the_like_of_what_is_not_listed(self):
        """Where a class has a truth of its own, these take lists: no generator expression stands in them."""
        for name, tree in trees():
            for call in nodes(tree, ast.Call):
                if isinstance(call.func, ast.Name) and call.func.id in ("any", "all", "sum", "sorted"):
                    self.assertIsInstance(call.args[0], (ast.ListComp, ast.Name, ast.Attribute), (name, call.lineno))

    def test_what_is_never_read(self):
        for name, tree in trees():
            for node in nodes(tree, ast.FunctionDef):
                used = {one.id for one in nodes(node, ast.Name) if isinstance(one.ctx, ast.Load)}
                bound = {one.id for one in nodes(node, ast.Name) if isinstance(one.ctx, ast.Store)} - {"_"}
                self.assertFalse(bound - used, (name, node.name))
                self.assertNotIn("_", used, (name, node.name))

    def test_names(self):
        for name, tree in trees():
            fixed = set(own_names(tree)) | {bound for _, bound in imported(tree)}
            classes = {node.name for node in nodes(tree, ast.ClassDef)}
            bound = {node.id for node in nodes(tree, ast.Name) if isinstance(node.ctx, ast.Store)}
            bound |= {node.arg for node in nodes(tree, ast.arg)}
            barred = {one for _, one in imported(tree)} | classes
            constants = set(own_names(tree)) - classes - {node.name for node in nodes(tree, ast.FunctionDef)}
            self.assertFalse((bound - constants) & barred, name)
            self.assertFalse((bound | fixed) & set(dir(builtins)), name)
            for node in nodes(tree, ast.Name):
                if isinstance(node.ctx, ast.Load) and node.id not in bound | fixed:
                    self.assertIn(node.id, BUILTINS | {"type"}, name)
            every = bound | fixed | {node.attr for node in nodes(tree, ast.Attribute)}
            self.assertFalse(every & NOT_USED, name)

    def test_methods(self):
        own = {node.name for _, tree in trees() for one in nodes(tree, ast.ClassDef) for node in one.body
               if isinstance(node, ast.FunctionDef)}
        assigned = {node.attr for _, tree in trees() for node in nodes(tree, ast.Attribute)
                    if isinstance(node.ctx, ast.Store)}
        for name, tree in trees():
            for call in nodes(tree, ast.Call):
                if isinstance(call.func, ast.Attribute):
                    self.assertIn(call.func.attr, METHODS | own, name)
            for node in nodes(tree, ast.Attribute):
                self.assertIn(node.attr, METHODS | own | assigned, name)
        self.assertFalse(METHODS & own)


if __name__ == "__main__":
    unittest.main()
