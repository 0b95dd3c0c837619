"""The interface of the document, and those rules of LANGUAGE.md that a look at the code can tell."""

import ast
import builtins
import importlib
import inspect
import re
import unittest
from pathlib import Path

PACKAGE = Path(__file__).resolve().parent.parent / "depthquestions"
FILES = sorted(PACKAGE.glob("*.py"))
INTERFACE = {
    "words": ["is_word(value)"],
    "stores": ["is_store(value)", "store_of(marks, columns, items, facts)", "facts_of(store, item)",
               "led_to(store, column, item)", "led_from(store, column, item)"],
    "deeds": ["with_fact(store, fact)", "without_fact(store, fact)", "with_item(store, item)",
              "without_item(store, item)", "done(store, edits)"],
    "questions": ["is_question(value)", "first_wrong(value)", "free_names(question)", "depth(question)",
                  "signs(question)", "renamed(question)", "are_alike(one, other)", "inward(question)",
                  "plainer(question)"],
    "texts": ["read_question(text)", "wrong_at(text)", "written(question)", "read_store(text)",
              "store_wrong_at(text)", "written_store(store)"],
    "plain": ["holds(store, question, binding)", "answers(store, question, names)",
              "how_many_plain(store, question, names)", "first_choice(store, question, binding)"],
    "kinds": ["atoms(store, row)", "kind(store, row, depth)", "alike(one, row, other, second, depth)",
              "least_depth(one, row, other, second)"],
    "balls": ["neighbours(store, item)", "distance(store, one, other)", "groups(store)", "ball(store, row, radius)"],
    "codes": ["code_of(store, row, radius)", "same_form(one, row, other, other_row, radius)", "types(store, radius)",
              "is_code(marks, columns, value)", "store_of_code(marks, columns, code)",
              "code_within(marks, columns, code, row, radius)", "beside(marks, columns, one, other)"],
    "radii": ["radius(depth)", "near_radius(depth)", "most_in_ball(columns, reach)",
              "cut(columns, depth, names, level)"],
    "looking": ["local_holds(store, question, binding)", "looks(store, question, binding)",
                "how_many_types(store, depth)", "most_looks(store, question)"],
    "profiles": ["profile(store, depth, names)", "same_profile(one, other, depth, names)",
                 "holds_by_types(marks, columns, question, names, shape, counts)"],
    "told": ["told_by(store, question, binding)", "is_told_by(store, question, binding, flag, value)"],
    "replies": ["sure_depth(one, row, other, second, most)", "reply(one, row, other, second, depth, item)"],
    "answers": ["how_many(store, question, names)", "is_answer(store, question, names, value)",
                "number_of(store, question, names, row)", "numbered(store, question, names, number)",
                "page(store, question, names, number, many)", "next_answer(store, question, names, row)",
                "beginning(store, question, names, item)", "by_types(store, question, names)",
                "far_types(store, question, names)"],
    "kept": ["Kept(store, depth)"],
    "sums": ["union(pieces, counts)", "holds_in_union(question, pieces, counts)", "cuts(question, pieces)",
             "enough(question, pieces, at)", "parting_counts(one, other, pieces)",
             "how_many_in_union(question, names, pieces, counts)"],
    "lines": ["letters(marks)", "is_line(marks, value)", "line_of(store)", "store_of_line(marks, columns, line)"],
    "machines": ["machine(marks, columns, question)"],
    "everywhere": ["least_store(marks, columns, question)", "holds_where(marks, columns, question)",
                   "parting_store(marks, columns, one, other)", "sizes(marks, columns, question)",
                   "how_many_lines(marks, columns, question, length)"],
    "base": ["Base(marks, columns)", "read_base(text)"],
    "errors": ["StoreError()", "NothingToUndo()", "NothingToRedo()", "InvalidStore(value=None)", "InvalidQuestion(value=None)", "InvalidName(value=None)",
               "InvalidItem(value=None)", "InvalidFact(value=None)", "InvalidNumber(value=None)",
               "InvalidList(value=None)", "InvalidText(value=None)", "InvalidPaper(value=None)",
               "InvalidFlag(value=None)", "Unlike(value=None)", "TooMany(value=None)"],
}
METHODS_OF_CLASSES = {
    ("kept", "Kept"): [
        "store()", "deepest()", "type_of(item)", "type_counts()", "typed()", "put_in(fact)", "take_out(fact)",
        "add(item)", "drop(item)", "undo()", "redo()", "log()", "copy()", "count(question, names)",
        "has(question, names, value)", "rank(question, names, row)", "at(question, names, number)",
        "pages(question, names, number, many)", "behind(question, names, row)", "begun(question, names, item)",
        "gained(question, names, edit)", "lost(question, names, edit)", "__eq__(other)"],
    ("base", "Base"): [
        "store()", "define(name, text, names)", "forget(name)", "definition(name)", "defined()", "count(name)",
        "has(name, row)", "page(name, number, many)", "each(name)", "told(text)", "put(fact)", "take(fact)",
        "add(item)", "drop(item)", "together(edits, *, keep=True)", "undo()", "redo()", "log()", "copy()", "text()",
        "__len__()", "__contains__(name)", "__eq__(other)"],
}
# Methods whose names builtin values have, too, which LANGUAGE.md allows.
SHARED_NAMES = {"add", "copy", "count"}
SPECIAL_METHODS = {"__init__", "__eq__", "__len__", "__contains__"}
VIEWS = {"range", "zip", "enumerate", "reversed", "items", "keys", "values"}
TAKERS = {"list", "tuple", "dict", "sorted", "sum", "any", "all", "enumerate", "zip", "min", "max", "len"}
BUILTINS = set("""len range enumerate zip min max sum abs sorted reversed int str bool list tuple dict set isinstance ord
    any all divmod ValueError""".split())
METHODS = set("""append clear copy count endswith extend find get index insert isalnum isalpha isdigit islower isspace
    isupper items join keys ljust lower lstrip partition pop remove replace reverse rfind rjust rpartition rsplit rstrip
    setdefault split splitlines startswith strip update upper values zfill bit_length""".split())
BARRED_WORDS = """type typing typing_extensions enum Enum IntEnum StrEnum Flag IntFlag Generic Protocol ABC ABCMeta
    namedtuple NamedTuple TypedDict TYPE_CHECKING abstractmethod register mro elements open input law""".split()
BARRED_NODES = (
    ast.AsyncFor, ast.AsyncFunctionDef, ast.AsyncWith, ast.Await, ast.Global, ast.Nonlocal, ast.Div, ast.Try,
    ast.GeneratorExp, ast.YieldFrom, ast.With, ast.AnnAssign, ast.NamedExpr, ast.MatMult)
MODULE_LEVEL = (ast.ImportFrom, ast.FunctionDef, ast.ClassDef, ast.Assign)


def trees():
    return [(path, ast.parse(path.read_text(encoding="ascii"))) for path in FILES]


def nodes(kind):
    return [(path, node) for path, tree in trees() for node in ast.walk(tree) if isinstance(node, kind)]


def bound_names(tree):
    """All names that a file binds: of functions, classes, parameters, variables and imports."""
    found = []
    for node in ast.walk(tree):
        if isinstance(node, (ast.FunctionDef, ast.ClassDef)):
            found.append(node.name)
        elif isinstance(node, ast.arg):
            found.append(node.arg)
        elif isinstance(node, ast.Name) and isinstance(node.ctx, ast.Store):
            found.append(node.id)
        elif isinstance(node, ast.alias):
            found.append(node.name)
    return found


class Interface(unittest.TestCase):
    def test_names_and_arguments(self):
        for name, promised in INTERFACE.items():
            module = importlib.import_module(f"depthquestions.{name}")
            for row in promised:
                thing = getattr(module, row.partition("(")[0])
                with self.subTest(name=row):
                    if row not in ("StoreError()", "NothingToUndo()", "NothingToRedo()"):
                        self.assertEqual(f"{thing.__name__}{inspect.signature(thing)}", row)
                    self.assertEqual(thing.__module__, module.__name__)

    def test_methods(self):
        for (name, kind), promised in METHODS_OF_CLASSES.items():
            own = vars(getattr(importlib.import_module(f"depthquestions.{name}"), kind))
            for row in promised:
                word, _, rest = row.partition("(")
                with self.subTest(name=row):
                    self.assertEqual(f"{inspect.signature(own[word])}", f"(self, {rest}".replace(", )", ")"))


def with_parents():
    """All nodes, each with its file and the node around it."""
    return [(path, child, node) for path, tree in trees() for node in ast.walk(tree)
            for child in ast.iter_child_nodes(node)]


def called(node):
    """The name of what a call calls, None for what is no call."""
    if not isinstance(node, ast.Call):
        return None
    return node.func.id if isinstance(node.func, ast.Name) else getattr(node.func, "attr", None)


class Files(unittest.TestCase):
    def test_folder(self):
        found = [path for path in PACKAGE.iterdir() if path.name != "__pycache__"]
        self.assertEqual(sorted(found), FILES)
        for path in FILES:
            self.assertRegex(path.name, r"^[a-z0-9_]+\.py$")

    def test_size_and_characters(self):
        for path in FILES:
            text = path.read_text(encoding="ascii")
            self.assertRegex(text, r"\A[ -~\n]*\Z")
            self.assertLessEqual(text.count("\n"), 399)
            for line in text.split("\n"):
                self.assertLessEqual(len(line), 120, (path.name, line))
        for path, node in nodes(ast.FunctionDef):
            self.assertLessEqual(node.end_lineno - node.lineno + 1, 40, (path.name, node.name))

    def test_imports_are_used(self):
        for path, tree in trees():
            read = {node.id for node in ast.walk(tree) if isinstance(node, ast.Name)}
            for node in tree.body:
                if isinstance(node, ast.ImportFrom):
                    self.assertEqual({alias.name for alias in node.names} - read, set(), path.name)

    def test_module_level(self):
        for path, tree in trees():
            bound = []
            for node in tree.body[1:]:
                self.assertIsInstance(node, MODULE_LEVEL, (path.name, node.lineno))
                if isinstance(node, ast.ImportFrom):
                    bound += [alias.name for alias in node.names]
                elif isinstance(node, ast.Assign):
                    bound += [target.id for target in node.targets]
                    self.assertEqual(len(node.targets), 1)
                else:
                    bound.append(node.name)
            self.assertEqual(len(bound), len(set(bound)), path.name)
            self.assertTrue(ast.get_docstring(tree), path.name)

    def test_imports(self):
        needs = {path.stem: [] for path in FILES}
        for path, node in nodes((ast.Import, ast.ImportFrom)):
            self.assertIsInstance(node, ast.ImportFrom)
            package, _, name = node.module.partition(".")
            self.assertEqual((package, node.level), ("depthquestions", 0))
            needs[path.stem].append(name)
            own = [each.name for each in ast.parse((PACKAGE / f"{name}.py").read_text()).body
                   if isinstance(each, (ast.FunctionDef, ast.ClassDef))]
            own += [target.id for each in ast.parse((PACKAGE / f"{name}.py").read_text()).body
                    if isinstance(each, ast.Assign) for target in each.targets]
            for alias in node.names:
                self.assertIn(alias.name, own)
                self.assertIsNone(alias.asname)
        while needs:
            ready = [name for name in needs if not any(other in needs for other in needs[name])]
            self.assertTrue(ready, "files import from each other")
            needs = {name: needs[name] for name in needs if name not in ready}


class Code(unittest.TestCase):
    def test_statements_and_expressions(self):
        self.assertEqual([(path.name, node.lineno) for path, node in nodes(BARRED_NODES)], [])
        for path, node in nodes((ast.FunctionDef, ast.ClassDef)):
            self.assertEqual(node.decorator_list, [], path.name)
        for path, node in nodes(ast.Constant):
            self.assertNotIsInstance(node.value, (float, complex, bytes), path.name)

    def test_names(self):
        for path, tree in trees():
            for name in bound_names(tree):
                if name not in SPECIAL_METHODS:
                    self.assertFalse(hasattr(builtins, name), (path.name, name))
                    self.assertRegex(name, r"^(_?[A-Za-z][A-Za-z0-9_]*|_)$")
            imported = [alias.name for node in tree.body if isinstance(node, ast.ImportFrom) for alias in node.names]
            classes = [node.name for node in tree.body if isinstance(node, ast.ClassDef)]
            for name in imported + classes:
                self.assertEqual(bound_names(tree).count(name), 1, (path.name, name))
        for path, node in nodes(ast.Name):
            self.assertFalse(node.id == "_" and isinstance(node.ctx, ast.Load), path.name)

    def test_builtins(self):
        for path, tree in trees():
            own = set(bound_names(tree))
            for node in ast.walk(tree):
                if isinstance(node, ast.Name) and node.id not in own:
                    self.assertIn(node.id, BUILTINS, (path.name, node.lineno))

    def test_methods_and_attributes(self):
        stored = {node.attr for _, node in nodes(ast.Attribute) if isinstance(node.ctx, ast.Store)}
        own = {each.name for _, node in nodes(ast.ClassDef) for each in node.body if isinstance(each, ast.FunctionDef)}
        builtin = {name for kind in (str, int, list, dict, set, tuple, bytes) for name in dir(kind)}
        self.assertEqual(stored & own, set())
        self.assertEqual((stored | own - SPECIAL_METHODS - SHARED_NAMES) & builtin, set())
        for path, node in nodes(ast.Attribute):
            self.assertIn(node.attr, METHODS | stored | own, (path.name, node.lineno))

    def test_words_and_strings(self):
        for path, tree in trees():
            docs = [ast.get_docstring(node, clean=False) for node in ast.walk(tree)
                    if isinstance(node, (ast.Module, ast.FunctionDef, ast.ClassDef))]
            for node in ast.walk(tree):
                if isinstance(node, ast.Constant) and isinstance(node.value, str) and node.value not in docs:
                    self.assertNotIn("%", node.value)
                    self.assertFalse(node.value.startswith("__"))
                    for word in re.findall(r"\w+", node.value):
                        self.assertNotIn(word, BARRED_WORDS, path.name)
            for name in bound_names(tree):
                self.assertNotIn(name, BARRED_WORDS, path.name)

    def test_comparisons_by_is(self):
        for path, node in nodes(ast.Compare):
            for sign, right in zip(node.ops, node.comparators):
                if isinstance(sign, (ast.Is, ast.IsNot)):
                    self.assertIsInstance(right, ast.Constant, path.name)
                    self.assertIn(str(right.value), ("None", "True", "False"), path.name)


class Narrower(unittest.TestCase):
    """Rules on sets, views, stars, keywords, exponents and generators."""

    def test_sets(self):
        for path, node, around in with_parents():
            if isinstance(node, (ast.Set, ast.SetComp)) or called(node) == "set":
                fits = called(around) in ("sorted", "len") and not around.keywords
                self.assertTrue(fits or isinstance(around, (ast.Compare, ast.Assign)), (path.name, node.lineno))
            if isinstance(node, ast.Set):
                self.assertFalse([each for each in node.elts if isinstance(each, ast.Starred)], path.name)

    def test_views_are_iterated_at_once(self):
        for path, node, around in with_parents():
            if called(node) in VIEWS and not (called(node) == "range" and isinstance(around, ast.Compare)):
                fits = isinstance(around, (ast.For, ast.comprehension)) or called(around) in TAKERS
                self.assertTrue(fits, (path.name, node.lineno))

    def test_stars_and_keywords_in_calls(self):
        for path, node in nodes(ast.Call):
            for given in node.args:
                if isinstance(given, ast.Starred):
                    self.assertIsInstance(given.value, ast.Name, (path.name, node.lineno))
            words = [keyword.arg for keyword in node.keywords]
            if words and isinstance(node.func, ast.Name):
                self.assertIn((called(node), words), [("max", ["default"]), ("enumerate", ["start"])], path.name)
            self.assertFalse(words and isinstance(node.func, ast.Attribute), (path.name, node.lineno))

    def test_exponents(self):
        for path, node in nodes(ast.BinOp):
            if isinstance(node.op, ast.Pow):
                self.assertIsInstance(node.right, ast.Constant, (path.name, node.lineno))
                self.assertLessEqual(node.right.value, 64)

    def test_generators(self):
        names = [node.name for _, node in nodes(ast.FunctionDef)
                 if any(isinstance(part, ast.Yield) for part in ast.walk(node))]
        self.assertEqual(names, ["each"])
        self.assertEqual([path.name for path, node in nodes(ast.FunctionDef) if node.name == "each"], ["base.py"])
        self.assertEqual([path.name for path, node in nodes(ast.Name) if node.id == "each"], [])

    def test_lambdas_on_lines_of_their_own(self):
        lines = [(path.name, node.lineno) for path, node in nodes(ast.Lambda)]
        self.assertEqual(len(lines), len(set(lines)))

    def test_loops_do_not_change_what_they_go_over(self):
        for path, node in nodes(ast.For):
            over = ast.unparse(node.iter)
            for inner in node.body:
                for part in ast.walk(inner):
                    if called(part) in ("append", "extend", "pop", "insert", "remove", "update", "setdefault"):
                        self.assertNotEqual(ast.unparse(part.func.value), over, (path.name, node.lineno))


if __name__ == "__main__":
    unittest.main()
