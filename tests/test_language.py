"""The subset of Python that the files of the package keep to, as far as it can be seen in single files."""

import ast
import importlib
import inspect
import re
import unittest
from pathlib import Path

from counterheld.bench import BenchError
from counterheld.errors import ScoreError

FOLDER = Path(__file__).resolve().parent.parent / "counterheld"
FILES = sorted(FOLDER.glob("*.py"))
LIBRARY = {
    "heapq": {"heappush", "heappop", "heapify", "heapreplace", "heappushpop"},
    "math": {"gcd", "lcm", "isqrt", "comb", "perm", "factorial"},
    "itertools": {"permutations"},
}
BUILTINS = set(
    "len range enumerate zip min max sum abs sorted reversed int str bool list tuple dict set isinstance ord repr any all "
    "divmod ValueError KeyError NotImplementedError type".split()
)
METHODS = set(
    "append clear copy count endswith extend find get index insert isalnum isalpha isdigit islower isspace isupper items "
    "join keys ljust lower lstrip partition pop remove replace reverse rfind rjust rpartition rsplit rstrip setdefault "
    "split splitlines startswith strip update upper values zfill bit_length".split()
)
NODES = (
    ast.Module, ast.Expr, ast.Constant, ast.Name, ast.Load, ast.Store, ast.Del, ast.alias, ast.ImportFrom, ast.ClassDef,
    ast.FunctionDef, ast.arguments, ast.arg, ast.Assign, ast.AugAssign, ast.Return, ast.If, ast.While, ast.For, ast.Break,
    ast.Continue, ast.Pass, ast.Raise, ast.Try, ast.ExceptHandler, ast.Delete, ast.Call, ast.keyword, ast.Attribute,
    ast.Subscript, ast.Slice, ast.Tuple, ast.List, ast.Dict, ast.ListComp, ast.DictComp, ast.comprehension, ast.Lambda,
    ast.IfExp, ast.BoolOp, ast.And, ast.Or, ast.UnaryOp, ast.Not, ast.USub, ast.BinOp, ast.Add, ast.Sub, ast.Mult,
    ast.FloorDiv, ast.Mod, ast.Pow, ast.Compare, ast.Eq, ast.NotEq, ast.Lt, ast.LtE, ast.Gt, ast.GtE, ast.Is, ast.IsNot,
    ast.In, ast.NotIn, ast.JoinedStr, ast.FormattedValue, ast.Starred, ast.SetComp, ast.BitAnd, ast.BitOr, ast.LShift,
    ast.RShift,
)
INTERFACE = {
    "errors": ["ScoreError"],
    "tones": ["steps", "height", "added", "opposite", "between", "inverted", "simple", "spellings"],
    "names": ["BadName", "tone_name", "interval_name", "read_tone", "read_interval"],
    "keys": ["BadKey", "scale", "degree", "key_name", "tone_of"],
    "fractions": ["fraction", "sum_of", "difference", "product", "is_less", "common_grid"],
    "columns": ["BadColumn", "check_bar", "raised", "turned", "paced", "exchanged", "notes"],
    "bartexts": ["BadText", "bar_text", "read_bar"],
    "scores": ["BadScore", "Score", "TooLong"],
    "scoretexts": ["BadScoreText", "score_text", "read_score"],
    "moments": ["written", "NoColumn", "NoMoment", "column", "moment_of", "column_at", "columns", "grid"],
    "lines": ["NoVoice", "NoNote", "note_count", "note", "note_at", "notes_by_tone"],
    "extents": ["highest", "lowest", "widest", "signatures"],
    "books": ["BadBook", "Book", "turned_book", "exchanged_book", "holds", "moved", "run"],
    "broken": [
        "NoBroken", "broken_count", "broken_in", "lets", "broken", "first_broken", "last_broken", "state_behind", "why",
    ],
    "papers": ["paper_of", "shows", "table_of"],
    "boxes": ["BadBox", "word_score", "lets_word", "word_count", "word_at", "word_index", "longest", "endless"],
    "machines": ["parting_word", "keeping_paper", "is_keeping", "machine", "apart_count", "apart_at"],
    "gaps": ["BadGap", "filling_count", "filling_at", "filling_index", "blocked", "is_blocked_by"],
    "costs": ["cheapest", "filling_by_cost", "potentials", "shows_least"],
    "refrains": ["refrain_count", "refrain_at"],
    "themes": [
        "BadTheme", "NoPlace", "theme_count", "theme_place", "theme_in", "theme_of", "kind_count", "commonest", "longest_twice",
    ],
    "tempos": ["BadTempo", "time_of", "moment_of_time", "column_time", "column_at_time"],
    "pulses": ["BadPulse", "meeting", "meetings", "nearest_miss", "beat", "beats", "beats_of"],
    "breaking": [
        "BadPieces", "BadRoom", "badness", "best_lines", "breaking_count", "breaking_at", "breaking_index", "line_potentials",
        "shows_lines", "ends_of", "pieces_of", "turns_of",
    ],
    "pages": ["BadTurns", "best_pages", "page_potentials", "shows_pages"],
    "bench": [
        "BenchError", "BadWord", "NoLine", "NoBook", "NoRoom", "InUse", "Circle", "NothingLeft", "BadLine", "Bench", "BadEntry",
        "rebuilt",
    ],
    "bridges": ["BadBridge", "check_bridge", "put_behind", "opposite_bridge", "brought"],
    "alike": [
        "alike_for", "alike_back", "alike", "difference_at", "first_difference", "bridges_between", "follows",
    ],
    "sequences": ["sequence", "repeated"],
    "likeness": ["likeness_paper", "shows_alike"],
}
ARGUMENTS = {
    "steps": "interval", "height": "interval", "added": "one other", "opposite": "interval", "between": "one other",
    "inverted": "interval", "simple": "interval", "spellings": "number most", "tone_name": "tone",
    "interval_name": "interval", "read_tone": "text", "read_interval": "text", "scale": "key octave", "degree": "key tone",
    "key_name": "key", "tone_of": "key degree signs octave", "fraction": "n d", "sum_of": "one other",
    "difference": "one other", "product": "one other", "is_less": "one other", "common_grid": "fractions",
    "check_bar": "columns", "raised": "bar interval", "turned": "bar total", "paced": "bar by", "exchanged": "bar order",
    "notes": "bar voice", "bar_text": "bar", "read_bar": "text", "score_text": "score", "read_score": "text",
    "written": "score", "column": "score number", "moment_of": "score number", "column_at": "score moment",
    "columns": "score first stop", "grid": "score", "note_count": "score voice", "note": "score voice number",
    "note_at": "score voice column", "notes_by_tone": "score voice", "highest": "score voice first stop",
    "lowest": "score voice first stop", "widest": "score one other", "signatures": "score first stop",
    "turned_book": "book", "exchanged_book": "book order", "holds": "test one other", "moved": "book state one other",
    "run": "book columns state", "broken_count": "score book", "broken_in": "score book first stop", "lets": "score book",
    "broken": "score book number", "first_broken": "score book", "last_broken": "score book",
    "state_behind": "score book number", "why": "score book number", "paper_of": "score book",
    "shows": "score book paper number", "table_of": "score book rule first stop view", "word_score": "box word",
    "lets_word": "box book word", "word_count": "box book length", "word_at": "box book length index",
    "word_index": "box book word", "longest": "box book", "endless": "box book", "parting_word": "box one other",
    "keeping_paper": "box one other", "is_keeping": "box one other paper", "machine": "box book",
    "apart_count": "box one other length", "apart_at": "box one other length index", "filling_count": "gap book",
    "filling_at": "gap book index", "filling_index": "gap book word", "blocked": "gap book",
    "is_blocked_by": "gap book paper", "cheapest": "gap book costs", "filling_by_cost": "gap book costs index",
    "potentials": "gap book costs", "shows_least": "gap book costs told cost", "refrain_count": "refrain book",
    "refrain_at": "refrain book index", "theme_count": "score voice theme manner",
    "theme_place": "score voice theme manner number", "theme_in": "score voice theme manner first stop",
    "theme_of": "score voice note many", "kind_count": "score voice many upside", "commonest": "score voice many upside",
    "longest_twice": "score voice upside", "time_of": "tempos period moment", "moment_of_time": "tempos period time",
    "column_time": "score tempos period number", "column_at_time": "score tempos period time", "meeting": "pulses",
    "meetings": "pulses until", "nearest_miss": "one other", "beat": "pulses number", "beats": "pulses until",
    "beats_of": "pulses until many", "badness": "pieces first stop room", "best_lines": "pieces room",
    "breaking_count": "pieces room", "breaking_at": "pieces room index", "breaking_index": "pieces room ends",
    "line_potentials": "pieces room", "shows_lines": "pieces room told total", "ends_of": "score book states first stop",
    "pieces_of": "score first ends base", "turns_of": "score first ends", "best_pages": "pieces room turns least most",
    "page_potentials": "pieces room turns least most", "shows_pages": "pieces room turns least most told total", "rebuilt": "journal",
    "check_bridge": "bridge voices",
    "put_behind": "one other", "opposite_bridge": "bridge", "brought": "columns bridge",
    "alike_for": "one first other second bridge", "alike_back": "one stop other end bridge", "alike": "one other",
    "difference_at": "one other index", "first_difference": "one other", "bridges_between": "one other",
    "follows": "score leader follower distance", "sequence": "score first stop", "repeated": "score first stop",
    "likeness_paper": "one other bridge", "shows_alike": "one other bridge paper",
}
METHODS_OF_CLASSES = {
    "scores.Score": {"counts": ""},
    "bench.Bench": {
        "set_line": "name rule", "take_line": "name", "exchange": "one other", "set_book": "name book", "take_book": "name",
        "undo": "", "redo": "", "journal": "", "lines": "", "books": "", "rule": "name", "book": "name", "leads_to": "name",
        "voices_of": "name", "length": "name", "duration_of": "name", "score": "name", "broken_count": "name book",
        "first_broken": "name book", "work": "",
    },
}


def functions_in(tree):
    return [node for node in ast.walk(tree) if isinstance(node, (ast.FunctionDef, ast.Lambda))]


def arguments_of(function):
    return [argument.arg for argument in function.args.args]


class Language(unittest.TestCase):
    def each(self):
        texts = [(file, file.read_text(encoding="utf-8")) for file in FILES]
        return [(file, text, ast.parse(text)) for file, text in texts]

    def test_folder(self):
        self.assertTrue(FILES)
        others = [path.name for path in FOLDER.iterdir() if path not in FILES and path.name != "__pycache__"]
        self.assertEqual([], others)
        for file in FILES:
            self.assertRegex(file.stem, "^(__init__|[a-z][a-z0-9_]*)$")

    def test_signs_and_sizes(self):
        for _, text, tree in self.each():
            self.assertRegex(text, r"\A[ -~\n]*\Z")
            lines = text.split("\n")
            self.assertLess(len(lines), 400)
            self.assertLessEqual(max(len(line) for line in lines), 120)
            for function in functions_in(tree):
                self.assertLessEqual(function.end_lineno - function.lineno, 39)

    def test_nodes(self):
        for _, text, tree in self.each():
            for node in ast.walk(tree):
                self.assertIsInstance(node, NODES, getattr(node, "lineno", None))
                if isinstance(node, ast.Constant):
                    self.assertNotIsInstance(node.value, (float, complex, bytes))
                if isinstance(node, ast.Constant) and isinstance(node.value, str):
                    self.assertNotIn("%", node.value)
                    self.assertNotRegex(node.value, r"\.__?\Z|__")
                if isinstance(node, (ast.FunctionDef, ast.ClassDef)):
                    self.assertEqual([], node.decorator_list)
                if isinstance(node, ast.Compare) and isinstance(node.ops[0], (ast.Is, ast.IsNot)):
                    self.assertIn(ast.unparse(node.comparators[0]), ("None", "True", "False"))
                if isinstance(node, ast.Call) and ast.unparse(node.func) == "type":
                    self.assertIn(f"{ast.unparse(node)} != int", text)
                if isinstance(node, ast.BinOp) and isinstance(node.op, ast.Pow):
                    self.assertIn(node.right.value, range(65))

    def test_imports(self):
        homes = {}
        for file, _, tree in self.each():
            homes[file.stem] = {n.name for n in tree.body if isinstance(n, (ast.FunctionDef, ast.ClassDef))}
            for node in tree.body:
                if isinstance(node, ast.Assign):
                    homes[file.stem].add(node.targets[0].id)
        uses = {}
        for file, _, tree in self.each():
            uses[file.stem] = set()
            for node in ast.walk(tree):
                if isinstance(node, ast.ImportFrom):
                    self.assertIn(node, tree.body)
                    self.assertEqual([None] * len(node.names), [name.asname for name in node.names])
                    names = {name.name for name in node.names}
                    if node.module in LIBRARY:
                        self.assertLessEqual(names, LIBRARY[node.module])
                    else:
                        home = re.fullmatch(r"counterheld\.(\w+)", node.module)[1]
                        self.assertLessEqual(names, homes[home])
                        uses[file.stem].add(home)
        while uses:
            ready = [stem for stem in uses if not uses[stem]]
            self.assertTrue(ready, "files import in a circle")
            uses = {stem: uses[stem] - set(ready) for stem in uses if stem not in ready}

    def test_module_level(self):
        for _, _, tree in self.each():
            self.assertIsInstance(tree.body[0].value.value, str)
            for node in tree.body[1:]:
                self.assertIsInstance(node, (ast.ImportFrom, ast.FunctionDef, ast.ClassDef, ast.Assign))
                if isinstance(node, ast.Assign):
                    above = {n.name for n in tree.body if isinstance(n, ast.FunctionDef) and n.lineno < node.lineno}
                    self.assertEqual(1, len(node.targets))
                    self.assertLessEqual({n.id for n in ast.walk(node.value) if isinstance(n, ast.Name)}, above)

    def test_names(self):
        for _, _, tree in self.each():
            barred = {"__init__"}
            for node in tree.body:
                if isinstance(node, ast.ImportFrom):
                    barred.update(name.name for name in node.names)
                if isinstance(node, ast.ClassDef):
                    barred.add(node.name)
            bound = [node.id for node in ast.walk(tree) if isinstance(node, ast.Name) and not isinstance(node.ctx, ast.Load)]
            for function in functions_in(tree):
                bound += arguments_of(function)
            defined = [node.name for node in ast.walk(tree) if isinstance(node, ast.FunctionDef)]
            self.assertEqual(set(), set(bound) & barred)
            builtin = set(__builtins__ if isinstance(__builtins__, dict) else dir(__builtins__))
            self.assertEqual(set(), set(bound + defined) & builtin)
            for name in bound + defined:
                self.assertRegex(name, r"\A(_?[A-Za-z][A-Za-z0-9_]*|_|__init__)\Z")

    def test_methods_and_attributes(self):
        methods, attributes = set(), set()
        for _, _, tree in self.each():
            for node in ast.walk(tree):
                if isinstance(node, ast.ClassDef):
                    self.assertRegex(node.name, "^[A-Z][A-Za-z]*$")
                    methods.update(method.name for method in node.body if isinstance(method, ast.FunctionDef))
                if isinstance(node, ast.Attribute) and isinstance(node.ctx, ast.Store):
                    attributes.add(node.attr)
        self.assertEqual(set(), methods & attributes)
        self.assertEqual(set(), methods & METHODS)
        self.assertEqual({"count"}, attributes & METHODS)

    def test_nothing_that_is_gone_over_is_changed(self):
        changing = ("append", "clear", "extend", "insert", "pop", "remove", "reverse", "setdefault", "update")
        for file, _, tree in self.each():
            for loop in ast.walk(tree):
                if not isinstance(loop, ast.For):
                    continue
                over = {ast.unparse(node) for node in ast.walk(loop.iter) if isinstance(node, (ast.Name, ast.Attribute))}
                for node in [node for row in loop.body for node in ast.walk(row)]:
                    changed = None
                    if isinstance(node, ast.Attribute) and node.attr in changing:
                        changed = node.value
                    if isinstance(node, ast.Subscript) and not isinstance(node.ctx, ast.Load):
                        changed = node.value
                    if changed is not None:
                        self.assertNotIn(ast.unparse(changed), over, (file.stem, node.lineno))

    def test_sets_and_things_gone_over_at_once(self):
        once = ("zip", "enumerate", "range", "reversed")
        for file, _, tree in self.each():
            parents = {child: node for node in ast.walk(tree) for child in ast.iter_child_nodes(node)}
            for node in ast.walk(tree):
                called = ast.unparse(node.func) if isinstance(node, ast.Call) else ""
                parent = parents.get(node)
                around = ast.unparse(parent.func) if isinstance(parent, ast.Call) else ""
                place = (file.stem, getattr(node, "lineno", None))
                if isinstance(node, ast.SetComp) or called == "set":
                    self.assertIn(around, ("sorted", "len"), place)
                if called in once or re.search(r"[.](items|keys|values)$", called):
                    if not isinstance(parent, (ast.For, ast.comprehension)):
                        self.assertIn(around, ("tuple", "list", "enumerate", "zip", "sorted", "reversed", "permutations"), place)

    def test_calls(self):
        own = set()
        for _, _, tree in self.each():
            own.update(node.name for node in ast.walk(tree) if isinstance(node, ast.FunctionDef))
        for _, _, tree in self.each():
            bound = {node.id for node in ast.walk(tree) if isinstance(node, ast.Name) and isinstance(node.ctx, ast.Store)}
            bound.update(node.name for node in ast.walk(tree) if isinstance(node, (ast.ExceptHandler, ast.FunctionDef)))
            for node in tree.body:
                if isinstance(node, ast.ImportFrom):
                    bound.update(name.name for name in node.names)
                if isinstance(node, (ast.FunctionDef, ast.ClassDef)):
                    bound.add(node.name)
            for function in functions_in(tree):
                bound.update(arguments_of(function))
            for node in ast.walk(tree):
                if isinstance(node, ast.Name) and isinstance(node.ctx, ast.Load):
                    self.assertIn(node.id, bound | BUILTINS)
                if isinstance(node, ast.Call) and isinstance(node.func, ast.Attribute):
                    self.assertIn(node.func.attr, METHODS | own)


class Interface(unittest.TestCase):
    def test_names_stand_where_they_are_listed(self):
        for module, names in INTERFACE.items():
            tree = ast.parse((FOLDER / f"{module}.py").read_text(encoding="utf-8"))
            defined = {node.name: node for node in tree.body if isinstance(node, (ast.FunctionDef, ast.ClassDef))}
            for name in names:
                self.assertIn(name, defined)
                if isinstance(defined[name], ast.FunctionDef):
                    self.assertEqual(ARGUMENTS[name].split(), arguments_of(defined[name]))

    def test_names_of_errors(self):
        for module, names in INTERFACE.items():
            for name in names:
                if name[:1].isupper() and name not in ("Score", "Book", "Bench", "ScoreError"):
                    error = getattr(importlib.import_module(f"counterheld.{module}"), name)
                    under = BenchError if module == "bench" and name not in ("BenchError", "BadEntry") else ScoreError
                    self.assertEqual((under,), error.__bases__)
        self.assertEqual((ValueError,), ScoreError.__bases__)

    def test_methods_stand_in_the_class(self):
        for place, methods in METHODS_OF_CLASSES.items():
            module, name = place.split(".")
            told = vars(getattr(importlib.import_module(f"counterheld.{module}"), name))
            for method, arguments in methods.items():
                self.assertEqual(["self"] + arguments.split(), list(inspect.signature(told[method]).parameters))


if __name__ == "__main__":
    unittest.main()
