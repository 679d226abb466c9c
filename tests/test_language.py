"""Looks over the package's own files for what ../shared/LANGUAGE.md bars and a machine can see.

This is no full judge of those rules: it keeps the ones that are broken most easily.
"""

import ast
import builtins
import io
import pathlib
import re
import tokenize
import unittest

PACKAGE = pathlib.Path(__file__).resolve().parent.parent / "worthhouse"
FILES = {path: path.read_text(encoding="utf-8") for path in sorted(PACKAGE.rglob("*.py"))}
TREES = {path: ast.parse(text) for path, text in FILES.items()}

BUILTINS = set(
    "len range enumerate zip min max sum abs sorted reversed int str bool bytes list tuple dict set frozenset "
    "isinstance ord repr any all divmod pow Exception ValueError TypeError KeyError IndexError LookupError "
    "ZeroDivisionError ArithmeticError OverflowError RuntimeError NotImplementedError AttributeError NotImplemented".split()
)
METHODS = set(
    "append clear copy count endswith extend find get index insert isalnum isalpha isdigit islower isspace isupper "
    "items join keys ljust lower lstrip partition pop remove replace reverse rfind rjust rpartition rsplit rstrip "
    "setdefault split splitlines startswith strip update upper values zfill bit_length add discard removeprefix".split()
)
DUNDERS = set("__init__ __eq__ __len__ __contains__ __call__ __rshift__".split())
WORDS = re.compile(
    r"\b(type|typing|typing_extensions|enum|Enum|IntEnum|StrEnum|Flag|IntFlag|Generic|Protocol|ABC|ABCMeta|namedtuple"
    r"|NamedTuple|TypedDict|TYPE_CHECKING|abstractmethod)\b"
    r"|dataclass|overload|contextmanager|_wall|_WallAttr"
)
# These are barred as names alone; a string may be one of them.
NAMES = re.compile(r"register|mro|elements|open|input|law|version_info|with_traceback|add_note")
FOLDS = set("any all min max sum sorted".split())
LISTS = set("list tuple dict enumerate zip reversed".split())


def bound_names(function):
    """The names of parameters and local variables of a function."""
    arguments = function.args
    found = [a.arg for a in arguments.posonlyargs + arguments.args + arguments.kwonlyargs]
    found += [node.id for node in ast.walk(function) if isinstance(node, ast.Name) and isinstance(node.ctx, ast.Store)]
    return found


class Language(unittest.TestCase):
    def each(self, kind):
        for path, tree in TREES.items():
            for node in ast.walk(tree):
                if isinstance(node, kind):
                    yield path.name, node

    def test_files(self):
        self.assertGreater(len(FILES), 10)
        for path, text in FILES.items():
            self.assertRegex(path.name, r"^[a-z0-9_]+\.py$")
            self.assertNotIn(path.stem, dir(builtins))
            lines = text.split("\n")
            self.assertLessEqual(len(lines), 399, path.name)
            for number, line in enumerate(lines, 1):
                self.assertLessEqual(len(line), 120, (path.name, number))
                self.assertRegex(line, r"^[ -~]*$", (path.name, number))
        for path in PACKAGE.iterdir():
            self.assertTrue(path.suffix == ".py" or path.name == "__pycache__", path.name)

    def test_functions_are_short(self):
        for name, node in self.each(ast.FunctionDef):
            self.assertLessEqual(node.end_lineno - node.lineno + 1, 40, (name, node.name))

    def test_module_level(self):
        allowed = (ast.ImportFrom, ast.FunctionDef, ast.ClassDef, ast.Assign)
        for path, tree in TREES.items():
            for place, node in enumerate(tree.body):
                if place == 0 and isinstance(node, ast.Expr):
                    self.assertIsInstance(node.value, ast.Constant)
                else:
                    self.assertIsInstance(node, allowed, (path.name, node.lineno))

    def test_imports(self):
        uses = {}
        for path, tree in TREES.items():
            found = uses.setdefault("worthhouse." + path.stem, [])
            for node in ast.walk(tree):
                self.assertNotIsInstance(node, ast.Import)
                if isinstance(node, ast.ImportFrom):
                    self.assertIn(node, tree.body)
                    self.assertRegex(node.module, r"^worthhouse\.[a-z]+$")
                    there = TREES[PACKAGE / (node.module.split(".")[1] + ".py")]
                    defined = [n.name for n in there.body if isinstance(n, (ast.FunctionDef, ast.ClassDef))]
                    defined += [n.targets[0].id for n in there.body if isinstance(n, ast.Assign)]
                    for alias in node.names:
                        self.assertIsNone(alias.asname)
                        self.assertIn(alias.name, defined, path.name)
                        self.assertFalse(alias.name.startswith("_"), (path.name, alias.name))
                    found.append(node.module)
        while uses:
            ready = [name for name in uses if not any(other in uses for other in uses[name])]
            self.assertTrue(ready, "files import from each other")
            for name in ready:
                del uses[name]

    def test_imported_names_are_used(self):
        for path, tree in TREES.items():
            imported = [a.name for n in tree.body if isinstance(n, ast.ImportFrom) for a in n.names]
            used = {n.id for n in ast.walk(tree) if isinstance(n, ast.Name)}
            self.assertEqual([name for name in imported if name not in used], [], path.name)

    def test_one_helper_for_each_purpose(self):
        seen = {}
        for path, tree in TREES.items():
            for node in tree.body:
                if isinstance(node, (ast.FunctionDef, ast.ClassDef)):
                    self.assertIsNone(seen.get(node.name), (path.name, node.name))
                    seen[node.name] = path.name

    def test_no_word_that_is_barred(self):
        for path, text in FILES.items():
            tree = TREES[path]
            doc = set()
            for node in ast.walk(tree):
                if isinstance(node, (ast.Module, ast.ClassDef, ast.FunctionDef)) and ast.get_docstring(node) is not None:
                    doc.add(node.body[0].lineno)
            for token in tokenize.generate_tokens(io.StringIO(text).readline):
                if token.type == tokenize.COMMENT or (token.type == tokenize.STRING and token.start[0] in doc):
                    continue
                if token.type in (tokenize.NAME, tokenize.STRING):
                    self.assertIsNone(WORDS.search(token.string), (path.name, token.start))
                if token.type == tokenize.NAME:
                    self.assertIsNone(NAMES.fullmatch(token.string), (path.name, token.start))

    def test_names(self):
        for path, tree in TREES.items():
            barred = {a.name for n in tree.body if isinstance(n, ast.ImportFrom) for a in n.names}
            barred |= {n.name for n in tree.body if isinstance(n, ast.ClassDef)}
            functions = {n.name for n in tree.body if isinstance(n, ast.FunctionDef)}
            for node in ast.walk(tree):
                if isinstance(node, ast.FunctionDef):
                    for name in bound_names(node):
                        self.assertNotIn(name, barred, (path.name, node.name))
                        self.assertNotIn(name, functions, (path.name, node.name))
                        self.assertNotIn(name, dir(builtins), (path.name, node.name))
                        self.assertRegex(name, r"^(_|[a-z][a-z0-9_]*)$")
                    if not node.name.startswith("__"):
                        self.assertNotIn(node.name, dir(builtins))
                        self.assertRegex(node.name, r"^_?[a-z][a-z0-9_]*$")
                    else:
                        self.assertIn(node.name, DUNDERS)
                if isinstance(node, ast.Name) and node.id == "_":
                    self.assertIsInstance(node.ctx, ast.Store)
                if isinstance(node, ast.Name) and node.id in dir(builtins) and node.id != "staticmethod":
                    self.assertIn(node.id, BUILTINS, (path.name, node.lineno))

    def test_statements_and_expressions(self):
        barred = (
            ast.With, ast.Global, ast.Nonlocal, ast.AsyncFunctionDef, ast.Yield, ast.YieldFrom,
            ast.AnnAssign, ast.GeneratorExp, ast.Div, ast.MatMult, ast.Is, ast.IsNot, ast.NamedExpr, ast.Match,
        )
        for path, tree in TREES.items():
            for node in ast.walk(tree):
                if isinstance(node, ast.Compare):
                    # L20: is and is not beside None, True and False alone.
                    for sign, right in zip(node.ops, node.comparators):
                        if isinstance(sign, (ast.Is, ast.IsNot)):
                            self.assertIsInstance(right, ast.Constant, (path.name, node.lineno))
                elif not isinstance(node, (ast.Is, ast.IsNot)):
                    self.assertNotIsInstance(node, barred, (path.name, getattr(node, "lineno", 0)))
                if isinstance(node, ast.Constant):
                    self.assertNotIsInstance(node.value, (float, complex))
                    if isinstance(node.value, str):
                        self.assertNotIn("%", node.value)

    def test_errors_that_are_caught(self):
        own = {node.name for node in TREES[PACKAGE / "errors.py"].body[1:]}
        for name, node in self.each(ast.ExceptHandler):
            self.assertIn(node.type.id, own, (name, node.lineno))

    def test_what_finally_does(self):
        # L6: assignments of names and attributes, and tests by is None.
        for name, node in self.each(ast.Try):
            for part in node.finalbody:
                for inner in ast.walk(part):
                    allowed = (ast.If, ast.Compare, ast.Is, ast.IsNot, ast.Constant, ast.Name, ast.Attribute, ast.Assign)
                    self.assertIsInstance(inner, allowed + (ast.Load, ast.Store), (name, node.lineno))

    def test_decorators(self):
        for name, node in self.each((ast.FunctionDef, ast.ClassDef)):
            for decorator in node.decorator_list:
                self.assertEqual((node.name, decorator.id), ("same", "staticmethod"), name)

    def test_methods_that_are_called(self):
        own = {node.name for _, node in self.each(ast.FunctionDef)}
        for name, node in self.each(ast.Call):
            if isinstance(node.func, ast.Attribute):
                self.assertIn(node.func.attr, own | METHODS, (name, node.lineno))
            if isinstance(node.func, ast.Name) and node.func.id in dir(builtins):
                keys = ["key"] if node.func.id == "sorted" else []
                self.assertEqual([word.arg for word in node.keywords if word.arg not in keys], [], (name, node.lineno))

    def test_no_name_is_a_method_and_an_attribute(self):
        methods = set()
        for _, node in self.each(ast.ClassDef):
            methods |= {part.name for part in node.body if isinstance(part, ast.FunctionDef)}
        for name, node in self.each(ast.Attribute):
            if isinstance(node.ctx, ast.Store):
                self.assertNotIn(node.attr, methods, name)
        values = (str, int, list, dict, set, tuple, bytes)
        for method in methods:
            if not method.startswith("__"):
                self.assertFalse(any(hasattr(value, method) for value in values), method)

    def test_sets_are_not_iterated_or_kept(self):
        for name, node in self.each((ast.For, ast.comprehension)):
            self.assertNotIsInstance(node.iter, (ast.Set, ast.SetComp), name)
            self.assertFalse(isinstance(node.iter, ast.Call) and getattr(node.iter.func, "id", "") == "set", name)

    def test_lists_and_dicts_at_module_level_are_only_read(self):
        for path, tree in TREES.items():
            kept = {
                node.targets[0].id
                for node in tree.body
                if isinstance(node, ast.Assign) and isinstance(node.value, (ast.List, ast.Dict))
            }
            for node in ast.walk(tree):
                if isinstance(node, ast.Call):
                    passed = {argument.id for argument in node.args if isinstance(argument, ast.Name)}
                    self.assertEqual(passed & kept, set(), (path.name, node.lineno))

    def test_what_is_gone_through_later_is_not_kept(self):
        # L23: these stand in a for, a comprehension or one of a few calls, nowhere else.
        lazy = {"zip", "enumerate", "reversed", "range", "items", "keys", "values"}
        for path, tree in TREES.items():
            allowed = set()
            for node in ast.walk(tree):
                if isinstance(node, (ast.For, ast.comprehension)):
                    allowed.add(node.iter)
                if isinstance(node, ast.Call) and getattr(node.func, "id", "") in FOLDS | LISTS:
                    allowed.update(node.args)
                if isinstance(node, ast.Compare):
                    allowed.update(node.comparators)
            for node in ast.walk(tree):
                if isinstance(node, ast.Call):
                    name = getattr(node.func, "id", getattr(node.func, "attr", ""))
                    if name in lazy and not (isinstance(node.func, ast.Attribute) and name == "range"):
                        self.assertIn(node, allowed, (path.name, node.lineno))

    def test_what_a_loop_goes_over_is_not_changed(self):
        changing = {"append", "clear", "extend", "insert", "pop", "remove", "reverse", "setdefault", "update"}
        for name, node in self.each(ast.For):
            over = {inner.id for inner in ast.walk(node.iter) if isinstance(inner, ast.Name)}
            for inner in ast.walk(ast.Module(body=node.body, type_ignores=[])):
                if isinstance(inner, ast.Call) and isinstance(inner.func, ast.Attribute) and inner.func.attr in changing:
                    self.assertNotIn(getattr(inner.func.value, "id", None), over, (name, node.lineno))


class Interface(unittest.TestCase):
    DEFINED = {
        "scales": "Scale TableScale CountScale TurnScale CostScale LevelScale FewScale MostScale PairScale first_fault",
        "resting": "course_of rest_of steady within height",
        "scalemaps": "ScaleMap all_maps",
        "linkings": "check_linking least_linking met joined_linking kernel all_linkings parting quotient to_quotient",
        "frames": "Frame made_frame",
        "stores": "Store is_fact",
        "rules": "Program made_program needed_things filled need_fit same_rules",
        "texts": "write_program read_program write_store read_store",
        "uses": "uses_of use_worth",
        "rounds": "ruled_facts first_table round_of tables settled going_round breaker",
        "levels": "levels settled_by_levels",
        "asking": "settled_one_by_one whole_facts settled_on",
        "lines": "is_tree fact_of worth_of first_wrong line_facts line_worths tree_of",
        "judging": "sums_of judge_paper",
        "papers": "paper_of gone_on thinned joined cut",
        "counting": "grounds tree_count",
        "questions": "check_question names_of things_of_question term_at",
        "columns": "columns_of columns_at",
        "grades": "grade grades few_ground most_ground is_ground rows_in",
        "derivations": "grade_bounds are_bounds bounded",
        "running": "run run_at rounds_of",
        "asktexts": "write_question read_question",
        "compiling": "compiled compiled_parts store_over asked_facts compiled_run",
        "abstracts": "spreads abstract_steps rows_between",
        "turns": "turned planned kept_names all_turns",
        "linechanges": "lines_forth lines_back",
        "costs": "cost plan_costs best_plan",
        "edits": "edited back deeds_between touched changed kept_lines kept_on",
        "needs": "worths_at needed_rows needs losses rows_under wishes",
        "house": "House",
        "branches": "elders come_of last_common line_to",
        "merging": "in_order changes clashes merged",
        "attempts": "attempt tried would",
        "led": "Renaming MoreThings led_state led_fact led_worth led_deed led_paper led_house",
        "housetexts": "write_house read_house",
    }
    METHODS = {
        "Scale": "worths plus times total __contains__ __len__ __eq__",
        "ScaleMap": "same __call__ images __rshift__ __eq__",
        "Frame": "kinds told ruled places is_ruled __eq__",
        "Store": "things things_of kind_of rows worth has facts_of with_rows __len__ __eq__",
        "Program": "rules labels rule variables kind_at rules_for __len__ __eq__",
        "House": "do present now state log undo redo branch go here branches trail mark merge worth worth_at watch watched "
        "kept twin __eq__ __len__",
        "Renaming": "pairs",
        "MoreThings": "pairs",
    }

    def test_each_name_is_defined_in_its_file(self):
        for stem, names in self.DEFINED.items():
            tree = TREES[PACKAGE / (stem + ".py")]
            defined = [node.name for node in tree.body if isinstance(node, (ast.FunctionDef, ast.ClassDef))]
            for name in names.split():
                self.assertIn(name, defined)

    def test_each_method_stands_in_its_class(self):
        for tree in TREES.values():
            for node in tree.body:
                if isinstance(node, ast.ClassDef) and node.name in self.METHODS:
                    there = [part.name for part in node.body if isinstance(part, ast.FunctionDef)]
                    for name in self.METHODS[node.name].split():
                        self.assertIn(name, there)


if __name__ == "__main__":
    unittest.main()
