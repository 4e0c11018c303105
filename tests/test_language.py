"""The package's files keep to the part of Python that the program is written in; the rules' numbers stand beside."""

import ast
import builtins
import pathlib
import re
import unittest

ROOT = pathlib.Path(__file__).resolve().parent.parent
PACKAGE = ROOT / "boatlog"

BUILTINS = set("""len range enumerate zip min max sum abs sorted reversed int str bool list tuple dict set frozenset
    isinstance ord repr any all divmod Exception ValueError TypeError KeyError IndexError LookupError
    ZeroDivisionError ArithmeticError OverflowError RuntimeError NotImplementedError StopIteration""".split())
METHODS = set("""append clear copy count endswith extend find get index insert isalnum isalpha isdigit islower isspace
    isupper items join keys ljust lower lstrip partition pop remove replace reverse rfind rjust rpartition rsplit
    rstrip setdefault split splitlines startswith strip update upper values zfill bit_length""".split())
WORDS = re.compile(r"\b(type|typing|typing_extensions|enum|Enum|IntEnum|StrEnum|Flag|IntFlag|Generic|Protocol|ABC"
                   r"|ABCMeta|namedtuple|NamedTuple|TypedDict|TYPE_CHECKING|abstractmethod)\b"
                   r"|dataclass|overload|contextmanager")
UNUSED = set("register mro elements open input version_info with_traceback add_note format format_map".split())
WRONG = (ast.With, ast.Match, ast.Delete, ast.Global, ast.Nonlocal, ast.Assert, ast.Yield, ast.YieldFrom, ast.Await,
         ast.AsyncFunctionDef, ast.AsyncFor, ast.AsyncWith, ast.SetComp, ast.DictComp, ast.GeneratorExp,
         ast.NamedExpr, ast.Starred, ast.Import, ast.AnnAssign, ast.Div, ast.Set)
NOT_NAMES = set("""attrgetter breakpoint builtins compile copyright credits delattr dir eval exec exit gc getattr
    globals hasattr help id importlib license locals methodcaller os quit setattr super type vars sys __name__""".split())
WALKED = set("zip enumerate reversed range".split())
WALKERS = set("list tuple dict sorted sum any all enumerate zip min max".split())
CHANGES = set("append clear extend insert pop remove reverse setdefault update".split())
PLAIN = (ast.Constant, ast.List, ast.Tuple, ast.Dict, ast.UnaryOp, ast.USub, ast.Load)


def files():
    return sorted(PACKAGE.rglob("*.py"))


def trees():
    return [(path.name, ast.parse(path.read_text("ascii"))) for path in files()]


def nodes(*kinds):
    return [(name, node) for name, tree in trees() for node in ast.walk(tree) if isinstance(node, kinds)]


class Language(unittest.TestCase):
    def all_hold(self, rule, cases, holds):
        wrong = [f"{rule} {name}:{getattr(node, 'lineno', '')}" for name, node in cases if not holds(node)]
        self.assertEqual(wrong, [])

    def test_files(self):
        found = [path for path in PACKAGE.rglob("*") if "__pycache__" not in path.parts and path.is_file()]
        self.assertEqual([path.name for path in found if not re.fullmatch(r"[a-z0-9_]+\.py", path.name)], [])
        self.assertTrue((PACKAGE / "__init__.py").is_file())
        self.assertTrue((PACKAGE / "desk.py").is_file())

    def test_signs_and_sizes(self):
        for path in files():
            text = path.read_bytes().decode("ascii")
            self.assertTrue(all(sign == "\n" or " " <= sign <= "~" for sign in text), f"L14 {path.name}")
            self.assertIsNone(WORDS.search(text), f"L17 {path.name}")
            self.assertLessEqual(len(text.splitlines()), 400, f"L10 {path.name}")
            self.assertLessEqual(max(len(line) for line in text.splitlines()), 120, f"L10 {path.name}")
        self.all_hold("L10", nodes(ast.FunctionDef), lambda node: node.end_lineno - node.lineno < 40)

    def test_imports(self):
        self.all_hold("L2", nodes(ast.ImportFrom), lambda node: node.level == 0 and node.module.startswith("boatlog."))
        for name, node in nodes(ast.ImportFrom):
            tree = ast.parse((PACKAGE / (node.module.split(".")[1] + ".py")).read_text())
            bound = {getattr(part, "name", None) for part in tree.body}
            bound |= {part.targets[0].id for part in tree.body if isinstance(part, ast.Assign)}
            self.assertLessEqual({alias.name for alias in node.names}, bound, f"L16 {name}:{node.lineno}")

    def test_no_two_files_draw_from_one_another(self):
        drawn = {path.stem: set() for path in files()}
        for name, node in nodes(ast.ImportFrom):
            drawn[name[:-3]].add(node.module.split(".")[1])
        while drawn:
            free = [name for name in drawn if not drawn[name] & set(drawn)]
            self.assertTrue(free, f"L16 {sorted(drawn)}")
            for name in free:
                drawn.pop(name)

    def test_walked_at_once(self):
        """What's made to be walked is walked on the spot, and what a loop walks is not changed in it."""
        for name, tree in trees():
            calls = [node for node in ast.walk(tree) if isinstance(node, ast.Call)]
            named = [node for node in calls if isinstance(node.func, ast.Name)]
            walked = [node.iter for node in ast.walk(tree) if isinstance(node, (ast.For, ast.comprehension))]
            walked += [node.args[0] for node in named if node.func.id in WALKERS and node.args]
            kept = [node.lineno for node in named if node.func.id in WALKED and node not in walked]
            self.assertEqual(kept, [], f"L23 {name}")
            for loop in [node for node in ast.walk(tree) if isinstance(node, ast.For)]:
                changed = {ast.unparse(node.func.value) for node in ast.walk(loop) if isinstance(node, ast.Call)
                           and isinstance(node.func, ast.Attribute) and node.func.attr in CHANGES}
                self.assertNotIn(ast.unparse(loop.iter), changed, f"L23 {name}:{loop.lineno}")

    def test_tops(self):
        for name, tree in trees():
            bound = []
            for node in tree.body:
                if isinstance(node, ast.Assign):
                    self.assertTrue(all(isinstance(part, PLAIN) for part in ast.walk(node.value)), f"L3 {name}")
                    bound.append(node.targets[0].id)
                elif isinstance(node, (ast.FunctionDef, ast.ClassDef)):
                    bound.append(node.name)
                elif isinstance(node, ast.ImportFrom):
                    bound += [alias.name for alias in node.names]
                else:
                    self.assertIsInstance(node, ast.Expr, f"L3 {name}:{node.lineno}")
            self.assertEqual(len(bound), len(set(bound)), f"L15 {name}")
            inner = {part.arg for part in ast.walk(tree) if isinstance(part, ast.arg)}
            inner |= {part.id for node in tree.body if not isinstance(node, ast.Assign) for part in ast.walk(node)
                      if isinstance(part, ast.Name) and isinstance(part.ctx, ast.Store)}
            self.assertEqual(inner & (set(bound) | set(dir(builtins))), set(), f"L15 {name}")

    def test_defs_and_classes(self):
        plain = (lambda node: not node.decorator_list and not node.args.vararg and not node.args.kwarg
                 and not node.args.kwonlyargs and node.returns is None)
        self.all_hold("L4", nodes(ast.FunctionDef), plain)
        for name, node in nodes(ast.ClassDef):
            self.assertFalse(node.decorator_list or node.bases or node.keywords, f"L5 {name}:{node.lineno}")
            self.assertTrue(all(isinstance(part, (ast.FunctionDef, ast.Expr)) for part in node.body), f"L5 {name}")

    def test_statements_and_values(self):
        self.assertEqual([(name, node.lineno) for name, node in nodes(*WRONG) if hasattr(node, "lineno")], [])
        self.assertEqual([name for name, node in nodes(ast.Div)], [])
        self.all_hold("L6", nodes(ast.Assign), lambda node: len(node.targets) == 1)
        self.all_hold("L6", nodes(ast.For, ast.While), lambda node: not node.orelse)
        self.all_hold("L7", nodes(ast.Constant), lambda node: node.value is None or type(node.value) in (int, str, bool))
        self.all_hold("L7", nodes(ast.ListComp), lambda node: len(node.generators) == 1)
        self.all_hold("L27", nodes(ast.Constant), lambda node: "%" not in str(node.value))
        self.all_hold("L27", nodes(ast.BinOp), lambda node: not isinstance(node.op, ast.Pow))

    def test_names(self):
        self.all_hold("L12", nodes(ast.Name), lambda node: not node.id.startswith("_"))
        self.all_hold("L8", nodes(ast.Name), lambda node: node.id in BUILTINS or not hasattr(builtins, node.id))
        self.all_hold("L17", nodes(ast.Attribute), lambda node: node.attr not in UNUSED)
        self.all_hold("L17", nodes(ast.Name), lambda node: node.id not in UNUSED | NOT_NAMES)
        self.all_hold("L8", nodes(ast.Attribute), lambda node: not node.attr.startswith("_"))
        methods = {node.name for name, part in nodes(ast.ClassDef) for node in part.body
                   if isinstance(node, ast.FunctionDef)}
        stored = {node.attr for name, node in nodes(ast.Attribute) if isinstance(node.ctx, ast.Store)}
        self.assertEqual(methods & stored, set(), "L18")
        python = {name for kind in (str, int, list, dict, set, bytes, tuple) for name in dir(kind)}
        self.assertEqual((stored | methods) & python, {"__init__"}, "L26")
        called = [(name, node.func) for name, node in nodes(ast.Call) if isinstance(node.func, ast.Attribute)]
        self.all_hold("L25", called, lambda node: node.attr in METHODS | methods)

    def test_is_stands_beside_none_alone(self):
        beside = [(name, node) for name, node in nodes(ast.Compare)
                  if any(isinstance(sign, (ast.Is, ast.IsNot)) for sign in node.ops)]
        self.all_hold("L20", beside, lambda node: isinstance(node.comparators[0], ast.Constant))


if __name__ == "__main__":
    unittest.main()
