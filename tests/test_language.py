"""The rules of the language that a look at each file can tell, and the interface of what has landed."""

import ast
import builtins
import pathlib
import re
import unittest

FOLDER = pathlib.Path(__file__).resolve().parent.parent / "sparkboard"
FILES = sorted(path for path in FOLDER.rglob("*") if "__pycache__" not in path.parts and path.is_file())
TREES = {path: ast.parse(path.read_text(encoding="utf-8")) for path in FILES}

LIBRARY = {
    "heapq": {"heappush", "heappop", "heapify", "heapreplace", "heappushpop"},
    "math": {"gcd", "lcm", "isqrt", "comb", "perm", "factorial"},
    "itertools": {
        "product", "combinations", "permutations", "chain", "accumulate", "pairwise", "islice", "zip_longest",
    },
    "collections": {"defaultdict"},
}
BUILTINS = set(
    "len range enumerate zip min max sum abs sorted reversed int str bool list tuple dict set isinstance ord repr any all "
    "divmod map iter next ValueError TypeError KeyError IndexError LookupError ZeroDivisionError".split()
)
METHODS = set(
    "append clear copy count endswith extend find get index insert isalnum isalpha isdigit islower isspace isupper items join "
    "keys ljust lower lstrip partition pop remove replace reverse rfind rjust rpartition rsplit rstrip setdefault split "
    "splitlines startswith strip update upper values zfill bit_length".split()
)
UNUSED = set(
    "register mro elements open input law version_info with_traceback add_note attrgetter breakpoint builtins compile "
    "copyright credits delattr dir eval exec exit gc globals help id importlib license locals methodcaller os quit setattr "
    "super type vars sys".split()
)
BARRED_ATTRIBUTES = set(
    "items keys values pop update append clear extend insert remove reverse setdefault sort args encode decode hex fromhex "
    "format mro register elements open input law".split()
)
BARRED_WORDS = re.compile(
    r"\b(type|typing|typing_extensions|enum|Enum|IntEnum|StrEnum|Flag|IntFlag|Generic|Protocol|ABC|ABCMeta|namedtuple|"
    r"NamedTuple|TypedDict|TYPE_CHECKING|abstractmethod)\b|dataclass|overload|contextmanager"
)
DUNDERS = {"__init__", "__eq__", "__repr__", "__str__", "__len__", "__enter__", "__exit__", "__call__", "__iter__"}
STATEMENTS = (
    ast.FunctionDef, ast.ClassDef, ast.Import, ast.ImportFrom, ast.Assign, ast.AugAssign, ast.If, ast.While, ast.For,
    ast.Return, ast.Break, ast.Continue, ast.Pass, ast.Raise, ast.Assert, ast.Delete, ast.Expr, ast.Try,
)
# The package does without these, though some of them may stand in some places.
BARRED_NODES = (
    ast.GeneratorExp, ast.SetComp, ast.Set, ast.Await, ast.Div, ast.MatMult, ast.Yield, ast.YieldFrom, ast.NamedExpr,
    ast.Starred, ast.Lambda,
)

INTERFACE = {
    "errors": {
        "SparkError": "", "BadText": "column", "BadLine": "line column", "BadNumber": "what number", "BadRow": "row",
        "BadName": "name", "BadCell": "cell", "BadGate": "index", "BadTile": "stage tile", "NoName": "name",
        "TakenName": "name", "Unlike": "what", "NotKept": "promise witness", "NothingToUndo": "", "NothingToRedo": "",
    },
    "texts": {"Spoken": "name names circuit", "spoken_of": "text", "text_of": "spoken"},
    "cells": {
        "Stand": "heads tails", "neighbours": "cell", "distance": "one other", "step": "cells stand",
        "quick_step": "cells stand", "later": "cells stand steps lit", "stream": "cells stand steps lit cell",
        "part_near": "cells cell k", "apart": "one other", "together": "one other", "moved": "cells dx dy",
        "turned": "cells way", "moved_stand": "stand dx dy", "turned_stand": "stand way", "loop_of": "cells stand most",
        "Loop": "first length",
    },
    "circuits": {
        "Circuit": "inputs resets gates nexts outputs", "cycle": "circuit state bits", "run": "circuit rows",
        "run_from": "circuit state rows", "state_behind": "circuit state rows", "needed": "circuit", "few": "circuit",
        "lighter": "circuit", "alike": "one other", "is_alike": "one other told", "Alike": "pairs", "Parting": "rows",
    },
    "pictures": {"picture": "cells stand low high", "read_picture": "text", "corners": "cells"},
    "tiles": {
        "kinds": "", "ins_of": "kind", "outs_of": "kind", "word_of": "kind bits", "tile_cells": "kind", "upper": "tile",
        "rows_of": "tile", "cells_at": "tile x", "is_tile": "kind cells",
    },
    "programs": {
        "are_stages": "rows stages", "passed": "rows stages bits", "borders": "rows stages bits",
        "sources": "rows stages row", "moved_down": "stages by", "beside": "one other", "held": "rows many",
        "Program": "rows inputs registers stages nexts outs", "played": "program lines", "meant": "program state bits",
        "does": "program circuit",
    },
    "making": {
        "doubled": "m p", "exchanged": "m p", "led": "m p q", "made_at": "m p kind", "with_one": "circuit",
        "program_of": "circuit", "is_program_of": "circuit program",
    },
    "placing": {
        "live_rows": "program s", "laid": "program", "border_stand": "program s bits", "border_bits": "program s stand",
        "crossed": "program rows p",
    },
    "paths": {
        "is_path": "cells", "most_extra": "width height", "padded": "width height extra", "Ways": "steps paths",
        "ways": "width top starts ends least", "are_ways": "width top starts ends least told", "period_of": "width told",
    },
    "boards": {
        "Board": "cells heads tails entries exits period delay", "board_of": "program", "board_for": "circuit",
        "shown": "board rows", "exit_heads": "board rows moments",
    },
    "judge": {"ways_on": "program board", "is_board": "program board", "first_wrong": "program board"},
    "reading": {
        "lean": "program", "pieces_of": "cells s", "tile_of": "piece s", "read_stage": "cells s", "Read": "program",
        "NotOurs": "cell", "read_board": "board", "is_read": "board told",
    },
    "faults": {
        "faulty": "board faults", "period_behind": "board stand bits", "Differs": "lines", "Never": "pairs", "SameTo": "most",
        "least_line": "one other most", "is_told": "one other most told",
    },
    "movies": {
        "stand_at": "board rows moment", "movie": "board rows moments", "probe": "board rows cell last",
        "reel": "board rows moments",
    },
    "workshops": {"Workshop": "text"},
}
WORKSHOP = {
    "put": "text", "drop": "name", "rename": "name new", "keep": "text", "release": "text", "text": "", "names": "",
    "promises": "", "get": "name", "kept": "text", "board": "name", "show": "name rows", "undo": "", "redo": "",
    "attempt": "action", "trial": "action",
}


def named(tree):
    """All names that a file binds, with the nodes that bind them."""
    for node in ast.walk(tree):
        if isinstance(node, (ast.FunctionDef, ast.ClassDef)):
            yield node.name, node
        elif isinstance(node, ast.arg):
            yield node.arg, node
        elif isinstance(node, ast.Name) and isinstance(node.ctx, ast.Store):
            yield node.id, node
        elif isinstance(node, ast.ExceptHandler) and node.name:
            yield node.name, node
        elif isinstance(node, ast.alias):
            yield node.asname or node.name, node


def docstrings(tree):
    found = set()
    for node in ast.walk(tree):
        if isinstance(node, (ast.Module, ast.FunctionDef, ast.ClassDef)) and ast.get_docstring(node) is not None:
            found.add(node.body[0].value)
    return found


def own_methods():
    return {
        part.name for tree in TREES.values() for node in ast.walk(tree) if isinstance(node, ast.ClassDef)
        for part in node.body if isinstance(part, ast.FunctionDef)
    }


class Rules(unittest.TestCase):
    def each(self, kinds):
        for path, tree in TREES.items():
            for node in ast.walk(tree):
                if isinstance(node, kinds):
                    yield f"{path.name}:{getattr(node, 'lineno', 0)}", node

    def test_files(self):
        self.assertLessEqual(len(FILES), 100)
        for path in FILES:
            self.assertRegex(path.name, r"^[a-z0-9_]+\.py$")
            text = path.read_text(encoding="utf-8")
            self.assertRegex(text, r"^[ -~\n]*$", path.name)
            lines = text.split("\n")
            self.assertLessEqual(len(lines) - 1, 399, path.name)
            self.assertLessEqual(max(len(line) for line in lines), 120, path.name)

    def test_barred_words(self):
        for path, tree in TREES.items():
            docs = docstrings(tree)
            for node in ast.walk(tree):
                if isinstance(node, ast.Constant) and isinstance(node.value, str) and node not in docs:
                    self.assertNotRegex(node.value, r"%|^__.*__$|\._{1,2}$", path.name)
            text = path.read_text(encoding="utf-8")
            self.assertNotIn("_wall", text, path.name)
            for doc in docs:
                text = text.replace(doc.value, "")
            self.assertIsNone(BARRED_WORDS.search(re.sub(r"#.*", "", text)), path.name)

    def test_imports(self):
        for path, tree in TREES.items():
            body = tree.body[1:] if ast.get_docstring(tree) is not None else tree.body
            at_top = True
            for node in body:
                if isinstance(node, ast.ImportFrom):
                    self.assertTrue(at_top, path.name)
                    self.check_import(path, node)
                else:
                    at_top = False
            inner = [node for node in ast.walk(tree) if isinstance(node, (ast.Import, ast.ImportFrom))]
            self.assertEqual(len(inner), len([node for node in body if isinstance(node, ast.ImportFrom)]), path.name)

    def check_import(self, path, node):
        self.assertEqual(node.level, 0)
        names = {alias.name for alias in node.names}
        self.assertTrue(all(alias.asname is None for alias in node.names))
        if node.module in LIBRARY:
            self.assertTrue(names <= LIBRARY[node.module], path.name)
        else:
            folder, file = node.module.split(".")
            self.assertEqual(folder, "sparkboard")
            tree = TREES[FOLDER / f"{file}.py"]
            bound = {part.name for part in tree.body if isinstance(part, (ast.FunctionDef, ast.ClassDef))}
            bound |= {part.targets[0].id for part in tree.body if isinstance(part, ast.Assign)}
            self.assertTrue(names <= bound, f"{path.name}: {names - bound}")

    def test_no_circles_of_imports(self):
        leads = {
            path.stem: {node.module.split(".")[1] for node in tree.body
                        if isinstance(node, ast.ImportFrom) and node.module.startswith("sparkboard.")}
            for path, tree in TREES.items()
        }
        self.assertEqual(leads["__init__"], set())
        while leads:
            ends = {name for name, further in leads.items() if not further & set(leads)}
            self.assertTrue(ends, leads)
            leads = {name: further for name, further in leads.items() if name not in ends}

    def test_module_level(self):
        for path, tree in TREES.items():
            bound = []
            for node in tree.body:
                if isinstance(node, ast.Assign):
                    self.assertEqual(len(node.targets), 1)
                    self.assertIsInstance(node.targets[0], ast.Name)
                    bound.append(node.targets[0].id)
                elif isinstance(node, (ast.FunctionDef, ast.ClassDef)):
                    bound.append(node.name)
                elif isinstance(node, ast.ImportFrom):
                    bound += [alias.name for alias in node.names]
                else:
                    self.assertIn(getattr(node, "value", None), docstrings(tree), path.name)
            self.assertEqual(len(bound), len(set(bound)), path.name)

    def test_tables_at_module_level_are_only_read(self):
        tables = {
            node.targets[0].id for tree in TREES.values() for node in tree.body
            if isinstance(node, ast.Assign) and isinstance(node.value, (ast.Dict, ast.List))
        }
        self.assertIn("LINES", tables)
        for path, tree in TREES.items():
            read = set()
            for node in ast.walk(tree):
                if isinstance(node, (ast.Subscript, ast.Attribute)):
                    read.add(node.value)
                elif isinstance(node, ast.Compare):
                    read.update(node.comparators)
                elif isinstance(node, (ast.For, ast.comprehension)):
                    read.add(node.iter)
            for node in ast.walk(tree):
                if isinstance(node, ast.Name) and isinstance(node.ctx, ast.Load) and node.id in tables:
                    self.assertIn(node, read, f"{path.name}:{node.lineno}")

    def test_what_is_done_finally(self):
        for where, node in self.each(ast.Try):
            for part in node.finalbody:
                self.assertIsInstance(part, ast.Assign, where)
                self.assertIsInstance(part.value, (ast.Name, ast.Attribute, ast.Constant), where)

    def test_statements_and_signs(self):
        for where, node in self.each(ast.stmt):
            self.assertIsInstance(node, STATEMENTS, where)
        for where, node in self.each(BARRED_NODES):
            self.fail(f"{where} {node}")
        for where, node in self.each(ast.Constant):
            self.assertNotIsInstance(node.value, (float, complex), where)
        for where, node in self.each(ast.ExceptHandler):
            self.assertIsNotNone(node.type, where)
        for where, node in self.each(ast.Compare):
            for operator, side in zip(node.ops, node.comparators):
                if isinstance(operator, (ast.Is, ast.IsNot)):
                    self.assertIsInstance(side, ast.Constant, where)
        for where, node in self.each(ast.Raise):
            self.assertIsInstance(node.exc, ast.Call, where)

    def test_functions_and_classes(self):
        for where, node in self.each(ast.FunctionDef):
            self.assertLessEqual(node.end_lineno - node.lineno + 1, 40, where)
            self.assertEqual(node.decorator_list, [], where)
            self.assertFalse(node.name.startswith("__") and node.name not in DUNDERS, where)
        for where, node in self.each(ast.ClassDef):
            self.assertEqual(node.decorator_list, [], where)
            self.assertRegex(node.name, r"^[A-Z][A-Za-z]*$", where)
            names = [part.name for part in node.body if isinstance(part, ast.FunctionDef)]
            self.assertEqual(len(names), len(set(names)), where)
            stored = {
                part.attr for part in ast.walk(node) if isinstance(part, ast.Attribute) and isinstance(part.ctx, ast.Store)
            }
            self.assertFalse(stored & set(names), where)
            self.assertFalse(stored & BARRED_ATTRIBUTES, where)

    def test_names(self):
        every = set(dir(builtins))
        for path, tree in TREES.items():
            methods = {part for node in ast.walk(tree) if isinstance(node, ast.ClassDef) for part in node.body}
            taken = {node.name for node in tree.body if isinstance(node, ast.ClassDef)}
            taken |= {alias.name for node in tree.body if isinstance(node, ast.ImportFrom) for alias in node.names}
            for name, node in named(tree):
                self.assertRegex(name, r"^(_?[A-Za-z][A-Za-z0-9_]*|_|__[a-z]+__)$", path.name)
                self.assertNotIn(name, UNUSED, path.name)
                if node not in methods:
                    self.assertNotIn(name, every, path.name)
                if isinstance(node, (ast.arg, ast.Name)):
                    self.assertNotIn(name, taken, path.name)

    def test_names_that_are_read(self):
        for path, tree in TREES.items():
            bound = {name for name, _ in named(tree)}
            for node in ast.walk(tree):
                if isinstance(node, ast.Name) and isinstance(node.ctx, ast.Load):
                    self.assertIn(node.id, bound | BUILTINS, path.name)
                    self.assertNotEqual(node.id, "_", path.name)

    def test_methods_and_attributes(self):
        own = own_methods()
        stored = {node.attr for _, node in self.each(ast.Attribute) if isinstance(node.ctx, ast.Store)}
        calls = {node.func for _, node in self.each(ast.Call) if isinstance(node.func, ast.Attribute)}
        for where, node in self.each(ast.Attribute):
            if node in calls:
                self.assertIn(node.attr, own | METHODS, where)
            else:
                self.assertIn(node.attr, stored, where)

    def test_keywords_of_builtins(self):
        allowed = {"sorted": {"key", "reverse"}, "min": {"key", "default"}, "max": {"key", "default"},
                   "sum": {"start"}, "enumerate": {"start"}, "zip": {"strict"}}
        for where, node in self.each(ast.Call):
            if isinstance(node.func, ast.Name) and node.func.id in BUILTINS:
                self.assertTrue({word.arg for word in node.keywords} <= allowed.get(node.func.id, set()), where)


class Interface(unittest.TestCase):
    def test_each_stands_in_its_file(self):
        for file, wanted in INTERFACE.items():
            tree = TREES[FOLDER / f"{file}.py"]
            found = {node.name: node for node in tree.body if isinstance(node, (ast.FunctionDef, ast.ClassDef))}
            for name, arguments in wanted.items():
                self.assertIn(name, found, file)
                node = found[name]
                if isinstance(node, ast.ClassDef):
                    self.check_class(node, arguments)
                else:
                    self.assertEqual([part.arg for part in node.args.args], arguments.split(), name)

    def check_class(self, node, arguments):
        methods = {part.name: part for part in node.body if isinstance(part, ast.FunctionDef)}
        if "__init__" in methods:
            self.assertEqual([part.arg for part in methods["__init__"].args.args], ["self"] + arguments.split(), node.name)
        else:
            self.assertEqual(arguments, "", node.name)
        self.assertEqual("__eq__" in methods, node.name in ("Stand", "Circuit", "Program", "Board"), node.name)

    def test_methods_of_workshops(self):
        tree = TREES[FOLDER / "workshops.py"]
        found = next(node for node in tree.body if isinstance(node, ast.ClassDef) and node.name == "Workshop")
        methods = {part.name: part for part in found.body if isinstance(part, ast.FunctionDef)}
        for name, arguments in WORKSHOP.items():
            self.assertEqual([part.arg for part in methods[name].args.args], ["self"] + arguments.split(), name)
        open_ones = {name for name in methods if not name.startswith("_")}
        self.assertEqual(open_ones, set(WORKSHOP))


if __name__ == "__main__":
    unittest.main()
