"""The rules of the language that can be seen in the files of the package, and the interface of the document."""

import ast
import builtins
import importlib
import inspect
import pathlib
import re
import unittest

FOLDER = pathlib.Path(__file__).resolve().parent.parent / "pacehouse"
FILES = sorted(path for path in FOLDER.rglob("*") if "__pycache__" not in path.parts)
ALLOWED_BUILTINS = set(
    "len range enumerate zip min max sum abs sorted reversed int str bool bytes list tuple dict set isinstance ord repr any all "
    "divmod Exception ValueError TypeError KeyError IndexError LookupError ZeroDivisionError NotImplemented".split())
METHODS = set(
    "append clear copy count endswith extend find get index insert isalnum isalpha isdigit islower isspace isupper items join "
    "keys ljust lower lstrip partition pop remove replace reverse rfind rjust rpartition rsplit rstrip setdefault split "
    "splitlines startswith strip update upper values zfill bit_length isascii add discard".split())
CHANGING = set("append clear extend insert pop remove reverse setdefault update add discard".split())
BARRED = set(
    "register mro elements open input law version_info with_traceback add_note attrgetter breakpoint builtins compile copyright "
    "credits delattr dir eval exec exit gc getattr globals hasattr help id importlib license locals methodcaller os quit setattr "
    "super type vars sys".split())
WORDS = re.compile(
    r"\b(type|typing|typing_extensions|enum|Enum|IntEnum|StrEnum|Flag|IntFlag|Generic|Protocol|ABC|ABCMeta|namedtuple|NamedTuple|"
    r"TypedDict|TYPE_CHECKING|abstractmethod)\b|dataclass|overload|contextmanager|_wall")
NODES = (
    ast.Global, ast.AsyncFunctionDef, ast.Await, ast.Yield, ast.YieldFrom, ast.Lambda, ast.With, ast.GeneratorExp,
    ast.Div, ast.Delete, ast.Assert, ast.Match, ast.Nonlocal, ast.AnnAssign, ast.NamedExpr, ast.Set)
# What may be imported that is not of the package.
OUTSIDE = {"math": {"gcd"}}
DUNDERS = {"__init__", "__eq__", "__len__", "__str__", "__and__", "__or__", "__add__", "__contains__"}
# The methods that change the object that they are called on.
CHANGERS = {"hear", "undo", "redo", "tried", "cast", "change", "_put", "_change"}
INTERFACE = {
    "rules": {"Rules": ["heard", "written", "rows"], "Rules.read": ["text"], "Rules.led": ["self", "state", "speech", "caption"],
              "Rules.is_right": ["self", "speech", "caption"], "Rules.least": ["self"], "Rules.flipped": ["self"],
              "Rules.respelled": ["self", "heard", "written"]},
    "pairs": {"are_same": ["one", "other"], "is_within": ["one", "other"], "parting": ["one", "other"],
              "compared": ["one", "other"], "compared_holds": ["one", "other", "thing"]},
    "captioning": {"reached": ["rules", "state", "speech"], "first_caption": ["rules", "state", "speech"],
                   "captions": ["rules", "state", "speech"], "number_of_captions": ["rules", "state", "speech"],
                   "mute": ["rules"], "is_full": ["rules"]},
    "stands": {"is_open": ["rules", "state", "waiting"]},
    "lateplans": {"judge_lag": ["rules", "lag"], "lag_holds": ["rules", "lag", "thing"], "can_be_late": ["rules", "lag"],
                  "least_lag": ["rules", "most"], "written_by": ["rules", "cells", "speech"]},
    "classes": {"class_of": ["rules", "text"], "long_classes": ["rules"], "pump_holds": ["rules", "thing"]},
    "never": {"some_lag": ["rules"], "judge_never": ["rules"], "never_holds": ["rules", "thing"]},
    "shown": {"is_scene": ["rules", "reach", "thing"], "answers": ["rules", "scene", "letter"], "cost_of": ["scene", "answer"],
              "scene_behind": ["rules", "reach", "scene", "letter", "answer"], "taken_back": ["captions"]},
    "means": {"least_mean": ["rules", "reach"], "calm_cells": ["rules", "reach", "fraction"],
              "restless_cells": ["rules", "reach", "fraction"], "calm_holds": ["rules", "reach", "fraction", "thing"],
              "restless_holds": ["rules", "reach", "fraction", "thing"], "shown_along": ["rules", "reach", "cells", "speech"]},
    "totals": {"least_total": ["rules", "reach"], "forced_cells": ["rules", "reach", "number"],
               "forced_holds": ["rules", "reach", "number", "thing"]},
    "windows": {"is_let_by": ["rules", "size", "speech", "caption"], "stops_at": ["rules", "size", "speech", "caption"],
                "let_by": ["rules", "size"]},
    "exact": {"inner_states": ["rules"], "are_alike": ["rules", "state", "other"], "can_tell": ["rules", "size"],
              "judge_size": ["rules", "size"], "size_holds": ["rules", "size", "thing"], "first_wrong": ["rules", "size"],
              "least_size": ["rules"], "judge_any_size": ["rules"], "any_size_holds": ["rules", "thing"]},
    "exchanges": {"need": ["rules", "speech", "caption"], "mended": ["rules", "speech", "caption"],
                  "fewest_signs": ["rules", "speech", "caption", "place"], "judge_need": ["rules", "speech", "caption"],
                  "need_holds": ["rules", "speech", "caption", "thing"]},
    "enough": {"judge_enough": ["rules", "other", "number"], "enough_holds": ["rules", "other", "number", "thing"],
               "is_enough": ["rules", "other", "number"], "first_need": ["rules", "other", "number"],
               "least_enough": ["rules", "other", "most"], "worst_needs": ["rules", "other", "length"]},
    "lists": {"list_of": ["rules", "speech"], "plain_caption": ["rules", "speech"], "plain_back": ["rules", "speech"]},
    "plain": {"judge_plain": ["rules"], "plain_holds": ["rules", "thing"], "most_back": ["rules"]},
    "plainmeans": {"plain_mean": ["rules"]},
    "relays": {"through": ["one", "other"], "judge_relay": ["one", "other", "middle_lag", "lag"],
               "relay_holds": ["one", "other", "middle_lag", "lag", "thing"],
               "can_relay": ["one", "other", "middle_lag", "lag"], "least_relays": ["one", "other", "most"],
               "put_together": ["one", "other", "cells", "more"], "relayed": ["one", "other", "cells", "speech"]},
    "pieces": {"piece_of": ["rules", "speech", "caption"], "Piece.leads_to": None, "Piece.costs": None, "Piece.led_class": None,
               "Piece.__len__": ["self"], "Piece.__add__": ["self", "other"], "Piece.__eq__": ["self", "other"],
               "need_of": ["piece"], "is_right_piece": ["piece"]},
    "recordings": {"Recording": ["rules", "speech", "caption"], "Recording.pair_now": None, "Recording.right_until": None,
                   "Recording.need_now": None, "Recording.__len__": ["self"], "Recording.state_at": ["self", "place"],
                   "Recording.stretch": ["self", "start", "end"], "Recording.stops": ["self", "k"],
                   "Recording.change": ["self", "start", "end", "speech", "caption"], "Recording.undo": ["self"]},
    "studios": {"Studio": ["rules", "lag"], "Studio.hear": ["self", "piece"], "Studio.undo": ["self"], "Studio.end": ["self"],
                "Studio.spoken": None, "Studio.written_now": None, "Studio.waits": None, "Studio.shown_now": None,
                "Studio.__len__": ["self"]},
    "house": {"keeps": ["rules", "promise"], "first_broken": ["rules", "promises"], "is_promise": ["thing"], "House": [],
              "House.names": None, "House.__contains__": ["self", "name"], "House.__len__": ["self"],
              "House.editions": ["self", "name"], "House.in_use": ["self", "name"], "House.promises": ["self", "name"],
              "House.found": ["self", "name", "rules", "promises"], "House.add_promise": ["self", "name", "promise"],
              "House.bring": ["self", "name", "rules"], "House.drop": ["self", "name"], "House.undo": ["self"],
              "House.redo": ["self"], "House.tried": ["self", "action"], "House.cast": ["self", "name", "speech"],
              "House.log": None, "House.stands": ["self", "place"], "House.studio": ["self", "name", "lag"]},
    "findings": {"finding_holds": ["thing"]},
    "console": {"Console": [], "Console.run": ["self", "command"]},
}


def base_name(node):
    """The name off which an attribute or an item is taken."""
    while isinstance(node, (ast.Attribute, ast.Subscript)):
        node = node.value
    return node.id if isinstance(node, ast.Name) else None


def bound_names(tree):
    """All names that parameters, assignments and loops bind in a function."""
    names = [arg.arg for node in ast.walk(tree) if isinstance(node, ast.arguments) for arg in node.args + node.kwonlyargs]
    return names + [node.id for node in ast.walk(tree) if isinstance(node, ast.Name) and isinstance(node.ctx, ast.Store)]


def changed_names(tree):
    """The names whose lists or dicts are changed somewhere in a tree."""
    found = []
    for node in ast.walk(tree):
        if isinstance(node, ast.Call) and isinstance(node.func, ast.Attribute) and node.func.attr in CHANGING:
            found.append(base_name(node.func.value))
        if isinstance(node, (ast.Subscript, ast.Attribute)) and isinstance(node.ctx, ast.Store):
            found.append(base_name(node))
    return set(found) - {None}


class FilesTest(unittest.TestCase):
    def trees(self):
        for path in FILES:
            yield path, ast.parse(path.read_text(encoding="utf-8"))

    def functions(self):
        for path, tree in self.trees():
            for node in ast.walk(tree):
                if isinstance(node, ast.FunctionDef):
                    yield path, node

    def test_files(self):
        self.assertTrue(FILES)
        for path in FILES:
            self.assertTrue(path.is_file() and re.fullmatch(r"[a-z_]+\.py", path.name), path)
            text = path.read_text(encoding="utf-8")
            self.assertTrue(set(text) <= {chr(code) for code in range(32, 127)} | {"\n"}, path)
            lines = text.split("\n")
            self.assertTrue(len(lines) <= 399 and max(map(len, lines)) <= 120, path)

    def test_sizes_of_functions(self):
        for path, node in self.functions():
            self.assertTrue(node.end_lineno - node.lineno + 1 <= 40, (path, node.name))

    def test_module_level(self):
        for path, tree in self.trees():
            bound = []
            for at, node in enumerate(tree.body):
                if isinstance(node, ast.Expr):
                    self.assertTrue(at == 0 and isinstance(node.value, ast.Constant), path)
                elif isinstance(node, ast.Assign):
                    self.assertTrue(len(node.targets) == 1 and isinstance(node.targets[0], ast.Name), path)
                    bound.append(node.targets[0].id)
                elif isinstance(node, ast.ImportFrom):
                    bound += [alias.asname or alias.name for alias in node.names]
                else:
                    self.assertIsInstance(node, (ast.FunctionDef, ast.ClassDef), path)
                    bound.append(node.name)
            self.assertEqual(len(bound), len(set(bound)), path)

    def test_imports(self):
        known = {f"pacehouse.{path.stem}": tree for path, tree in self.trees()}
        asks = {}
        for module, tree in known.items():
            imports = [node for node in ast.walk(tree) if isinstance(node, (ast.Import, ast.ImportFrom))]
            asks[module] = {node.module for node in imports}
            for node in imports:
                self.assertTrue(isinstance(node, ast.ImportFrom) and node.level == 0 and node in tree.body, module)
                if node.module in OUTSIDE:
                    self.assertTrue({alias.name for alias in node.names} <= OUTSIDE[node.module], module)
                    continue
                names = [x.name for x in known[node.module].body if isinstance(x, (ast.FunctionDef, ast.ClassDef))]
                names += [x.targets[0].id for x in known[node.module].body if isinstance(x, ast.Assign)]
                self.assertTrue({alias.name for alias in node.names} <= set(names), module)
            used = {node.id for node in ast.walk(tree) if isinstance(node, ast.Name)}
            self.assertTrue({alias.name for node in imports for alias in node.names} <= used, module)
        while asks:
            free = [module for module in asks if not asks[module] & set(asks)]
            self.assertTrue(free, "modules import from each other")
            asks = {module: asks[module] for module in asks if module not in free}

    def test_statements_and_expressions(self):
        for path, tree in self.trees():
            for node in ast.walk(tree):
                self.assertNotIsInstance(node, NODES, (path, getattr(node, "lineno", 0)))
                if isinstance(node, ast.Compare) and any(isinstance(op, (ast.Is, ast.IsNot)) for op in node.ops):
                    self.assertTrue(all(isinstance(x, ast.Constant) for x in node.comparators), (path, node.lineno))
                if isinstance(node, ast.Constant):
                    self.assertNotIsInstance(node.value, (float, complex, bytes), path)
                    if isinstance(node.value, str):
                        self.assertFalse("%" in node.value or node.value.endswith("._"), path)
                if isinstance(node, ast.SetComp) or (isinstance(node, ast.Call) and getattr(node.func, "id", "") == "set"):
                    self.assertTrue(self.is_in_sorted_or_len(tree, node), (path, node.lineno))
                if isinstance(node, ast.FunctionDef):
                    decorators = [getattr(x, "id", None) for x in node.decorator_list]
                    self.assertTrue(set(decorators) <= {"classmethod", "staticmethod", "property"}, path)
                    self.assertTrue(not node.name.startswith("__") or node.name in DUNDERS, (path, node.name))

    def is_in_sorted_or_len(self, tree, inner):
        return any(isinstance(node, ast.Call) and getattr(node.func, "id", "") in ("sorted", "len")
                   and node.args == [inner] and not node.keywords for node in ast.walk(tree))

    def test_calls(self):
        own = {node.name for _, node in self.functions()}
        for path, tree in self.trees():
            for node in ast.walk(tree):
                if isinstance(node, ast.Name) and isinstance(node.ctx, ast.Load) and hasattr(builtins, node.id):
                    self.assertTrue(node.id in ALLOWED_BUILTINS | {"classmethod", "property"}, (path, node.id))
                if isinstance(node, ast.Call) and isinstance(node.func, ast.Attribute):
                    self.assertTrue(node.func.attr in METHODS | own, (path, node.func.attr))
                    self.assertFalse(node.keywords and node.func.attr in METHODS, (path, node.func.attr))

    def test_names(self):
        classes = {node.name for _, tree in self.trees() for node in tree.body if isinstance(node, ast.ClassDef)}
        for path, tree in self.trees():
            imported = {alias.name for node in tree.body if isinstance(node, ast.ImportFrom) for alias in node.names}
            own = {node.name for node in tree.body if isinstance(node, (ast.FunctionDef, ast.ClassDef))}
            self.assertFalse((own | set(bound_names(tree))) & BARRED, path)
            self.assertFalse((own | set(bound_names(tree))) & set(dir(builtins)), path)
            for node in ast.walk(tree):
                if isinstance(node, ast.FunctionDef):
                    self.assertFalse(set(bound_names(node)) & (imported | classes | own), (path, node.name))
            code = re.sub(r'"""[\s\S]*?"""|#.*', "", path.read_text(encoding="utf-8"))
            self.assertIsNone(WORDS.search(code), path)

    def test_what_a_loop_goes_over_stays(self):
        for path, tree in self.trees():
            for node in ast.walk(tree):
                if isinstance(node, ast.For):
                    over = {x.id for x in ast.walk(node.iter) if isinstance(x, ast.Name)}
                    for row in node.body:
                        self.assertFalse(over & changed_names(row), (path, node.lineno))

    def test_what_is_passed_stays(self):
        for path, node in self.functions():
            if node.name != "__init__":
                changed = changed_names(node) - ({"self"} if node.name in CHANGERS else set())
                self.assertFalse({arg.arg for arg in node.args.args} & changed, (path, node.name))

    def test_own_errors_alone_are_caught(self):
        own = {node.name for _, tree in self.trees() for node in tree.body if isinstance(node, ast.ClassDef)}
        for path, tree in self.trees():
            for node in ast.walk(tree):
                if isinstance(node, ast.Try):
                    self.assertTrue(all(isinstance(row, ast.Assign) for row in node.finalbody), path)
                    for handler in node.handlers:
                        caught = {x.id for x in ast.walk(handler.type) if isinstance(x, ast.Name)}
                        self.assertTrue(caught <= own and handler.name is None, (path, node.lineno))


class InterfaceTest(unittest.TestCase):
    def test_names_and_parameters(self):
        for file, told in INTERFACE.items():
            module = importlib.import_module(f"pacehouse.{file}")
            for name, parameters in told.items():
                owner, _, method = name.partition(".")
                thing = getattr(module, owner)
                if method:
                    self.assertIn(method, vars(thing), "a method stands in its class itself")
                    thing = getattr(thing, method)
                if parameters is None:
                    self.assertIsInstance(thing, property, name)
                    continue
                self.assertEqual(thing.__module__, f"pacehouse.{file}")
                self.assertEqual(list(inspect.signature(thing).parameters), parameters, name)


if __name__ == "__main__":
    unittest.main()
