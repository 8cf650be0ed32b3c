"""The package keeps to its small subset of Python: what a look at the code can tell of it."""

import ast
import builtins
import os
import re
import unittest

ROOT = os.path.join(os.path.dirname(os.path.dirname(os.path.abspath(__file__))), "wordquarry")
BUILTINS = set("""len range enumerate zip min max sum abs sorted reversed int str bool list tuple dict
    set isinstance ord repr any all divmod pow iter next map super Exception ValueError TypeError
    KeyError IndexError LookupError ZeroDivisionError ArithmeticError OverflowError RuntimeError
    NotImplementedError AttributeError NotImplemented""".split())
METHODS = set("""append clear copy count endswith extend find get index insert isalnum isalpha isdigit
    islower isspace isupper items join keys ljust lower lstrip partition pop remove replace reverse
    rfind rjust rpartition rsplit rstrip setdefault split splitlines startswith strip update upper
    values zfill bit_length add discard removeprefix removesuffix""".split())
CHANGES = set("append clear extend insert pop remove reverse setdefault update add discard".split())
BARRED = set("""type typing enum Enum IntEnum StrEnum Flag IntFlag Generic Protocol ABC ABCMeta
    namedtuple NamedTuple TypedDict abstractmethod dataclass overload contextmanager register mro
    elements open input law eval exec globals locals vars dir id gc os sys""".split())
DUNDERS = set("""__init__ __eq__ __len__ __contains__ __add__ __sub__ __mul__ __and__ __or__
    __invert__""".split())
# The interface gives a method of one class and attributes of others this name.
BOTH = {"commit"}
OUTSIDE = {"math": {"gcd", "lcm", "isqrt", "comb", "perm", "factorial"},
           "heapq": {"heappush", "heappop", "heapify", "heapreplace", "heappushpop"},
           "itertools": {"product", "combinations", "permutations"}}


def files():
    return sorted(name for name in os.listdir(ROOT) if name != "__pycache__")


def source(name):
    with open(os.path.join(ROOT, name), encoding="utf-8") as held:
        return held.read()


TREES = {name: ast.parse(source(name)) for name in files()}


def walk(kind):
    for name, tree in TREES.items():
        for node in ast.walk(tree):
            if isinstance(node, kind):
                yield name, node


def own_methods():
    return {item.name for _, node in walk(ast.ClassDef) for item in node.body
            if isinstance(item, ast.FunctionDef)}


def own_errors():
    return {node.name for node in TREES["errors.py"].body if isinstance(node, ast.ClassDef)}


def own_functions():
    found = {}
    for _, node in walk(ast.FunctionDef):
        found.setdefault(node.name, []).append(node)
    return found


def is_fresh(value):
    """Whether an expression makes a new list or dict."""
    if isinstance(value, (ast.List, ast.Dict, ast.ListComp, ast.DictComp, ast.SetComp)):
        return True
    if isinstance(value, ast.Call) and isinstance(value.func, ast.Name):
        return value.func.id in ("list", "dict", "set", "sorted")
    if isinstance(value, ast.Subscript) and isinstance(value.slice, ast.Slice):
        return True
    return isinstance(value, ast.BinOp) and (is_fresh(value.left) or is_fresh(value.right))


class Files(unittest.TestCase):

    def test_files(self):
        self.assertLessEqual(len(files()), 100)
        for name in files():
            self.assertRegex(name, r"^[a-z_][a-z0-9_]*\.py$")
            self.assertFalse(name.startswith("test"))
            text = source(name)
            self.assertTrue(all(sign == "\n" or " " <= sign <= "~" for sign in text), name)
            self.assertLessEqual(len(text.splitlines()), 399, name)
            for at, line in enumerate(text.splitlines()):
                self.assertLessEqual(len(line), 120, (name, at + 1))

    def test_functions_are_small(self):
        for name, node in walk((ast.FunctionDef, ast.Lambda)):
            self.assertLessEqual(node.end_lineno - node.lineno + 1, 40, (name, node.lineno))

    def test_module_level(self):
        for name, tree in TREES.items():
            bound = []
            for node in tree.body:
                self.assertIsInstance(node, (ast.Expr, ast.ImportFrom, ast.FunctionDef,
                                             ast.ClassDef, ast.Assign), (name, node.lineno))
                if isinstance(node, ast.Assign):
                    self.assertEqual(len(node.targets), 1)
                    self.assertIsInstance(node.targets[0], ast.Name)
                    bound.append(node.targets[0].id)
                    for part in ast.walk(node.value):
                        self.assertNotIsInstance(part, (ast.Call, ast.Name), (name, node.lineno))
                elif isinstance(node, ast.ImportFrom):
                    bound.extend(alias.name for alias in node.names)
                elif isinstance(node, ast.Expr):
                    self.assertIsInstance(node.value, ast.Constant)
                else:
                    bound.append(node.name)
            self.assertEqual(len(bound), len(set(bound)), name)


class Imports(unittest.TestCase):

    def test_imports(self):
        leads = {}
        for name, node in walk((ast.Import, ast.ImportFrom)):
            self.assertIsInstance(node, ast.ImportFrom, name)
            self.assertTrue(all(alias.asname is None for alias in node.names), name)
            if node.module in OUTSIDE:
                self.assertLessEqual({alias.name for alias in node.names}, OUTSIDE[node.module])
                continue
            top, file = node.module.split(".")
            self.assertEqual(top, "wordquarry")
            leads.setdefault(name, []).append(file + ".py")
            defined = {item.name for item in TREES[file + ".py"].body
                       if isinstance(item, (ast.FunctionDef, ast.ClassDef))}
            defined |= {item.targets[0].id for item in TREES[file + ".py"].body
                        if isinstance(item, ast.Assign)}
            for alias in node.names:
                self.assertIn(alias.name, defined, (name, node.module))
        done = set()
        while True:
            ready = [name for name in files() if name not in done
                     and all(one in done for one in leads.get(name, []))]
            if not ready:
                break
            done.update(ready)
        self.assertEqual(done, set(files()), "files import from each other")

    def test_no_import_is_idle(self):
        for name, tree in TREES.items():
            used = {node.id for node in ast.walk(tree) if isinstance(node, ast.Name)}
            for node in tree.body:
                if isinstance(node, ast.ImportFrom):
                    for alias in node.names:
                        self.assertIn(alias.name, used, name)


class Names(unittest.TestCase):

    def test_builtins(self):
        barred = {name for name in dir(builtins) if name not in BUILTINS and name != "_"}
        for name, node in walk(ast.Name):
            self.assertNotIn(node.id, barred, (name, node.lineno))
            if isinstance(node.ctx, ast.Store):
                self.assertFalse(hasattr(builtins, node.id), (name, node.lineno, node.id))
        for name, node in walk(ast.arg):
            self.assertFalse(hasattr(builtins, node.arg), (name, node.lineno, node.arg))
        for name, node in walk((ast.FunctionDef, ast.ClassDef)):
            if node.name not in DUNDERS:
                self.assertFalse(hasattr(builtins, node.name), (name, node.lineno, node.name))

    def test_barred_words(self):
        for name, node in walk((ast.Name, ast.Attribute, ast.arg, ast.FunctionDef)):
            word = getattr(node, "id", getattr(node, "attr", getattr(node, "arg", None)))
            self.assertNotIn(word, BARRED, (name, node.lineno))
            self.assertNotIn(getattr(node, "name", None), BARRED, name)
            if isinstance(word, str) and word != "__init__":
                self.assertFalse(re.match(r"__|_wall|_pe_|_dcw_|_enum_|_cm_|_twin_re_|_lay_|_law_|"
                                          r"_stub_|_sre|_cold|_tuplegetter|_outside|_record|"
                                          r"_written_out|_member_names", word), (name, word))

    def test_strings(self):
        for name, node in walk(ast.Constant):
            if isinstance(node.value, str):
                self.assertNotIn("%", node.value, (name, node.lineno))
                self.assertFalse(node.value.endswith(("._", ".__")), (name, node.lineno))
                self.assertNotRegex(node.value, r"\btype\b|\btyping\b|__\w+__", name)
        for name in files():
            self.assertNotRegex(re.sub(r"\\[n\\'\"]", "", source(name)), r"\\", name)

    def test_locals_shadow_nothing(self):
        for name, tree in TREES.items():
            tops = {node.name for node in tree.body if isinstance(node, ast.ClassDef)}
            tops |= {alias.name for node in tree.body if isinstance(node, ast.ImportFrom)
                     for alias in node.names}
            for function in ast.walk(tree):
                if not isinstance(function, (ast.FunctionDef, ast.Lambda)):
                    continue
                for node in ast.walk(function):
                    if isinstance(node, ast.Name) and isinstance(node.ctx, ast.Store):
                        self.assertNotIn(node.id, tops, (name, node.lineno))
                    if isinstance(node, ast.arg):
                        self.assertNotIn(node.arg, tops, (name, node.lineno))
                    if isinstance(node, ast.FunctionDef) and node is not function:
                        self.assertNotIn(node.name, tops, (name, node.lineno))

    def test_methods_are_called_where_they_stand(self):
        methods = own_methods() | METHODS
        for name, tree in TREES.items():
            called = {node.func for node in ast.walk(tree) if isinstance(node, ast.Call)}
            for node in ast.walk(tree):
                if isinstance(node, ast.Attribute) and isinstance(node.ctx, ast.Load) \
                        and node.attr in methods - BOTH:
                    self.assertIn(node, called, (name, node.lineno))

    def test_methods_and_attributes(self):
        methods = own_methods()
        told = {node.attr for _, node in walk(ast.Attribute) if isinstance(node.ctx, ast.Store)}
        for name, node in walk(ast.Attribute):
            if isinstance(node.ctx, ast.Load):
                self.assertIn(node.attr, methods | told | METHODS, (name, node.lineno))
        for name, node in walk(ast.ClassDef):
            own = {item.name for item in node.body if isinstance(item, ast.FunctionDef)}
            stored = {part.attr for part in ast.walk(node) if isinstance(part, ast.Attribute)
                      and isinstance(part.ctx, ast.Store)}
            self.assertFalse(own & stored, name)
            for method in own:
                if method.startswith("__"):
                    self.assertIn(method, DUNDERS, name)
        self.assertEqual(methods & told, BOTH)


class Forms(unittest.TestCase):

    def test_forms_that_are_not_used(self):
        for name, node in walk(ast.AST):
            self.assertNotIsInstance(node, (
                ast.GeneratorExp, ast.Global, ast.AsyncFunctionDef, ast.Await, ast.With,
                ast.JoinedStr, ast.Div, ast.MatMult, ast.AnnAssign, ast.Match, ast.NamedExpr),
                (name, getattr(node, "lineno", 0)))
            if isinstance(node, ast.Expr):
                self.assertIsInstance(node.value, (ast.Call, ast.Constant, ast.Yield), name)
            if isinstance(node, ast.Try):
                self.assertEqual(node.finalbody + node.orelse, [])
                for handler in node.handlers:
                    self.assertIn(handler.type.id, own_errors(), name)
            if isinstance(node, ast.FunctionDef):
                self.assertEqual(node.decorator_list, [])
                self.assertIsNone(node.returns)
            if isinstance(node, ast.Constant):
                self.assertNotIsInstance(node.value, (float, complex, bytes))

    def test_sort_and_format_are_not_called(self):
        for name, node in walk(ast.Call):
            if isinstance(node.func, ast.Attribute):
                self.assertNotIn(node.func.attr, ("sort", "format", "title", "center"), name)

    def test_is(self):
        for name, node in walk(ast.Compare):
            for op, right in zip(node.ops, node.comparators):
                if isinstance(op, (ast.Is, ast.IsNot)):
                    self.assertIsInstance(right, ast.Constant, (name, node.lineno))

    def test_exponents(self):
        for name, node in walk(ast.BinOp):
            if isinstance(node.op, ast.Pow):
                self.assertIsInstance(node.right, ast.Constant, (name, node.lineno))
                self.assertLessEqual(node.right.value, 64)

    def test_errors_are_raised_on_the_spot(self):
        for name, node in walk(ast.Raise):
            self.assertIsInstance(node.exc, ast.Call, (name, node.lineno))
            self.assertIsInstance(node.exc.func, ast.Name)

    def test_sets(self):
        for name, tree in TREES.items():
            parents = {child: node for node in ast.walk(tree) for child in ast.iter_child_nodes(node)}
            for node in ast.walk(tree):
                is_set = isinstance(node, (ast.Set, ast.SetComp)) or (
                    isinstance(node, ast.Call) and isinstance(node.func, ast.Name)
                    and node.func.id == "set")
                if not is_set:
                    continue
                above = parents[node]
                while isinstance(above, ast.BinOp):
                    above = parents[above]
                if isinstance(above, ast.Call):
                    self.assertIn(getattr(above.func, "id", ""), ("len", "sorted"), (name, node.lineno))
                    continue
                self.assertIsInstance(above, (ast.Compare, ast.Assign), (name, node.lineno))

    def test_views_are_iterated_at_once(self):
        fine = ("list", "tuple", "dict", "sorted", "sum", "any", "all", "enumerate", "zip", "min",
                "max", "reversed", "len")
        for name, tree in TREES.items():
            parents = {child: node for node in ast.walk(tree) for child in ast.iter_child_nodes(node)}
            for node in ast.walk(tree):
                if isinstance(node, ast.Call) and isinstance(node.func, ast.Name) \
                        and node.func.id in ("range", "zip", "enumerate", "reversed", "product"):
                    above = parents[node]
                    if isinstance(above, ast.Call):
                        self.assertIn(getattr(above.func, "id", ""), fine, (name, node.lineno))
                        continue
                    self.assertIsInstance(above, (ast.For, ast.comprehension, ast.Compare),
                                          (name, node.lineno))

    def test_loops_leave_alone_what_they_go_over(self):
        for name, node in walk(ast.For):
            over = {ast.dump(part) for part in [node.iter]}
            if isinstance(node.iter, ast.Call) and isinstance(node.iter.func, ast.Name) \
                    and node.iter.func.id in ("enumerate", "zip", "reversed"):
                over = {ast.dump(part) for part in node.iter.args}
            for part in ast.walk(ast.Module(node.body, [])):
                if isinstance(part, ast.Call) and isinstance(part.func, ast.Attribute) \
                        and part.func.attr in CHANGES:
                    self.assertNotIn(ast.dump(part.func.value), over, (name, part.lineno))
                if isinstance(part, ast.Subscript) and not isinstance(part.ctx, ast.Load):
                    held = ast.dump(part.value)
                    self.assertNotIn(held, over, (name, part.lineno))


class Operators(unittest.TestCase):
    """What operators run changes nothing that it did not make."""

    def reached(self):
        functions = own_functions()
        inits = {node.name: [item for item in node.body if isinstance(item, ast.FunctionDef)
                             and item.name == "__init__"] for _, node in walk(ast.ClassDef)}
        found = {}
        queue = [node for name in DUNDERS - {"__init__"} for node in functions.get(name, [])]
        while queue:
            node = queue.pop()
            if node in found:
                continue
            found[node] = True
            for call in ast.walk(node):
                if isinstance(call, ast.Call):
                    word = getattr(call.func, "id", getattr(call.func, "attr", None))
                    queue.extend(functions.get(word, []) if word not in METHODS else [])
                    queue.extend(inits.get(word, []))
        return list(found)

    def test_nothing_is_changed(self):
        for function in self.reached():
            told = {}
            for node in ast.walk(function):
                if isinstance(node, ast.Assign):
                    for target in node.targets:
                        if isinstance(target, ast.Name):
                            told.setdefault(target.id, []).append(is_fresh(node.value))
            fresh = {name for name in told if all(told[name])}
            parameters = {arg.arg for arg in function.args.args}
            where = (function.name, function.lineno)
            for node in ast.walk(function):
                if isinstance(node, ast.Call):
                    if isinstance(node.func, ast.Name):
                        self.assertNotIn(node.func.id, parameters, where)
                    elif node.func.attr in CHANGES:
                        held = node.func.value
                        if isinstance(held, ast.Call) and held.func.attr == "setdefault":
                            held = held.func.value
                        while isinstance(held, ast.Subscript):
                            held = held.value
                        self.assertIsInstance(held, ast.Name, where)
                        self.assertIn(held.id, fresh, where)
                elif isinstance(node, ast.Subscript) and not isinstance(node.ctx, ast.Load):
                    held = node.value
                    while isinstance(held, ast.Subscript):
                        held = held.value
                    self.assertIsInstance(held, ast.Name, where)
                    self.assertIn(held.id, fresh, where)
                elif isinstance(node, ast.Attribute) and not isinstance(node.ctx, ast.Load):
                    self.assertEqual((function.name, node.value.id), ("__init__", "self"), where)
                elif isinstance(node, ast.AugAssign):
                    self.assertIsInstance(node.value, ast.Constant, where)


if __name__ == "__main__":
    unittest.main()
