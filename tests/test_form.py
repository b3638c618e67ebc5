"""The form of the code: the interface's places and arguments, and rules of the language that can be counted."""

import ast
import builtins
import os
import re
import unittest

PACKAGE = os.path.join(os.path.dirname(os.path.dirname(os.path.abspath(__file__))), "stemrules")

# What stands where, with its arguments (of a class, those that it is made with).
INTERFACE = {
    "errors.py": {
        "RuleError": None, "TooMany": ["limit"], "SyntaxProblem": ["line", "column"], "NoName": None, "NoBook": None,
        "NoFiles": None, "NoRule": None, "NoMark": None, "Mismatch": None, "InvalidCommand": None,
    },
    "names.py": {
        "is_name": ["thing"], "is_pattern": ["thing"], "is_source": ["thing"], "parts": ["name"],
        "stem": ["pattern", "name"], "put_in": ["source", "stem"], "in_order": ["names"],
    },
    "books.py": {
        "is_rule": ["thing"], "is_book": ["thing"], "are_files": ["thing"], "fitting": ["book", "name"],
        "sources_of": ["book", "number", "name"], "kin": ["book", "name"],
    },
    "ways.py": {
        "way": ["book", "files", "name"], "can": ["book", "files", "name"], "made_by": ["book", "files", "name"],
        "shows_way": ["book", "files", "name", "thing"], "block": ["book", "files", "name"],
        "shows_block": ["book", "files", "name", "thing"],
    },
    "sets.py": {
        "least_sets": ["book", "name"], "barriers": ["book", "name"], "barrier": ["book", "files", "name"],
        "shows_barrier": ["book", "files", "name", "thing"],
    },
    "tables.py": {
        "table": ["book"], "row_for": ["book", "files", "name"], "parting": ["one", "other"], "lean": ["book"],
    },
    "classes.py": {"class_names": ["one", "other"], "same_class": ["one", "other", "name", "more"]},
    "alike.py": {
        "make_alike": ["one", "other"], "are_alike": ["one", "other"], "makes_apart": ["one", "other"], "apart": ["one", "other"],
    },
    "uses.py": {
        "first_use": ["book", "number"], "needless": ["book", "number"], "exchanges": ["book"], "needless_rules": ["book"],
    },
    "runs.py": {
        "run": ["book", "files", "wishes"], "files_after": ["book", "files", "wishes", "swept"],
        "settled": ["book", "files", "wishes"],
    },
    "desk.py": {"Desk": []},
    "texts.py": {"parse_rule": ["text"], "parse_book": ["text"], "format_rule": ["rule"], "format_book": ["book"]},
    "console.py": {"Console": []},
}

# The methods that stand in a class itself, with their arguments behind self.
CLASSES = {
    ("desk.py", "Desk"): {
        "__len__": 0, "__contains__": 1, "__eq__": 1, "do": ["deed"], "all_done": ["deeds"], "undo": [], "redo": [], "notes": [],
        "way": ["name"], "can": ["name"], "news": ["names"],
    },
    ("console.py", "Console"): {"execute": ["line"]},
}

DOUBLE = ("__init__", "__str__", "__len__", "__contains__", "__eq__")

ALLOWED_BUILTINS = set((
    "len range enumerate zip min max sum abs sorted reversed int str bool list tuple dict set isinstance ord repr any all "
    "divmod ValueError KeyError IndexError LookupError ZeroDivisionError TypeError NotImplemented map iter next super "
    "property staticmethod classmethod").split())

METHODS = set((
    "append clear copy count endswith extend find get index insert isalnum isalpha isdigit islower isspace isupper items "
    "join keys ljust lower lstrip partition pop remove replace reverse rfind rjust rpartition rsplit rstrip setdefault "
    "split splitlines startswith strip update upper values zfill bit_length add discard sort format __init__").split())

LIBRARY = ("heapq", "math", "itertools", "collections")

# Words that are no names of anything, and words that stand in no code at all.
NO_NAMES = set("mro elements open input law version_info with_traceback add_note register compile type vars dir id".split())
NO_WORDS = re.compile("\\b(type|typing|enum|Enum|Flag|Generic|Protocol|ABC|namedtuple|TypedDict)\\b|dataclass|overload|contextmanager")

BARRED = (ast.AsyncFunctionDef, ast.AsyncFor, ast.AsyncWith, ast.Await, ast.Global, ast.Div, ast.MatMult, ast.Import)


def sources():
    found = {}
    for folder, folders, files in os.walk(PACKAGE):
        folders[:] = [name for name in folders if name != "__pycache__"]
        for name in files:
            with open(os.path.join(folder, name), "rb") as file:
                found[os.path.relpath(os.path.join(folder, name), PACKAGE)] = file.read()
    return found


def is_plain(node):
    try:
        ast.literal_eval(node)
    except ValueError:
        return False
    return True


def is_table(node, bound):
    """Whether this is a dict whose values are functions that are defined above."""
    return isinstance(node, ast.Dict) and all(isinstance(value, ast.Name) and value.id in bound for value in node.values)


class Form(unittest.TestCase):
    def setUp(self):
        self.sources = sources()
        self.trees = {name: ast.parse(text) for name, text in self.sources.items()}

    def nodes(self, *kinds):
        return [(name, node) for name, tree in self.trees.items() for node in ast.walk(tree) if isinstance(node, kinds)]

    def test_files(self):
        self.assertIn("__init__.py", self.sources)
        for name in self.sources:
            self.assertRegex(name, r"\A[a-z0-9_]+\.py\Z")

    def test_characters_and_sizes(self):
        for name, text in self.sources.items():
            self.assertTrue(set(text) <= set(range(32, 127)) | {10}, name)
            rows = text.decode("ascii").split("\n")
            self.assertLess(len(rows), 400, name)
            self.assertLessEqual(max(map(len, rows)), 120, name)
        for name, node in self.nodes(ast.FunctionDef):
            self.assertLessEqual(node.end_lineno - node.lineno + 1, 40, (name, node.name))

    def test_interface_is_defined_in_its_files(self):
        for name, table in INTERFACE.items():
            defined = {node.name: node for node in self.trees[name].body if isinstance(node, (ast.FunctionDef, ast.ClassDef))}
            for word, arguments in table.items():
                node = defined[word]
                if isinstance(node, ast.ClassDef) and arguments is not None:
                    node = [part for part in node.body if getattr(part, "name", "") == "__init__"][0]
                    arguments = ["self"] + arguments
                if arguments is not None:
                    self.assertEqual([one.arg for one in node.args.args], arguments, word)
                    self.assertEqual(node.args.defaults + node.args.kwonlyargs, [], word)

    def test_methods_stand_in_their_classes(self):
        for (name, word), methods in CLASSES.items():
            found, = [node for node in self.trees[name].body if isinstance(node, ast.ClassDef) and node.name == word]
            self.assertEqual(found.bases, [])
            defined = {node.name: node.args for node in found.body if isinstance(node, ast.FunctionDef)}
            for method, arguments in methods.items():
                given = [one.arg for one in defined[method].args][1:]
                self.assertEqual(len(given) if isinstance(arguments, int) else given, arguments, method)
                self.assertEqual(defined[method].defaults + defined[method].kwonlyargs, [], method)

    def test_module_level(self):
        for name, tree in self.trees.items():
            bound = []
            for node in tree.body:
                if isinstance(node, (ast.FunctionDef, ast.ClassDef)):
                    bound.append(node.name)
                elif isinstance(node, ast.ImportFrom):
                    bound.extend(alias.name for alias in node.names)
                elif isinstance(node, ast.Assign):
                    self.assertTrue(is_plain(node.value) or is_table(node.value, bound), (name, node.lineno))
                    bound.extend(target.id for target in node.targets)
                else:
                    self.assertIsInstance(node, ast.Expr, (name, node.lineno))
                    self.assertTrue(is_plain(node.value), (name, node.lineno))
            self.assertEqual(len(bound), len(set(bound)), name)

    def test_imports(self):
        asked = {}
        for name, node in self.nodes(ast.ImportFrom):
            self.assertEqual(node.level, 0, name)
            self.assertTrue(all(alias.asname is None and alias.name != "*" for alias in node.names), name)
            if node.module in LIBRARY:
                continue
            self.assertTrue(node.module.startswith("stemrules."), (name, node.module))
            file = node.module[len("stemrules."):].replace(".", "/") + ".py"
            asked.setdefault(name, set()).add(file)
            here = [getattr(part, "name", None) for part in self.trees[file].body]
            here += [part.targets[0].id for part in self.trees[file].body if isinstance(part, ast.Assign)]
            for alias in node.names:
                self.assertIn(alias.name, here, (name, file))
        while asked:
            ready = [name for name in asked if not asked[name] & set(asked)]
            self.assertNotEqual(ready, [], "files that import from each other")
            for name in ready:
                del asked[name]

    def test_imports_are_used(self):
        for name, tree in self.trees.items():
            read = {node.id for node in ast.walk(tree) if isinstance(node, ast.Name)}
            for node in tree.body:
                if isinstance(node, ast.ImportFrom):
                    for alias in node.names:
                        self.assertIn(alias.name, read, name)

    def test_statements_and_values(self):
        self.assertEqual([(name, type(node).__name__) for name, node in self.nodes(*BARRED)], [])
        for name, node in self.nodes(ast.Constant):
            self.assertNotIsInstance(node.value, (float, complex), (name, node.lineno))
            if isinstance(node.value, str):
                self.assertNotIn("%", node.value, (name, node.lineno))
        for name, node in self.nodes(ast.Try):
            self.assertTrue(all(handler.type is not None for handler in node.handlers), (name, node.lineno))

    def test_builtins(self):
        for name, node in self.nodes(ast.Name, ast.arg, ast.FunctionDef, ast.ClassDef):
            word = node.id if isinstance(node, ast.Name) else node.arg if isinstance(node, ast.arg) else node.name
            # A doctest that has run leaves its last value among the builtins, by the name _.
            if word in dir(builtins) and word != "_":
                self.assertIsInstance(node, ast.Name, (name, word))
                self.assertIsInstance(node.ctx, ast.Load, (name, word))
                self.assertIn(word, ALLOWED_BUILTINS, name)

    def test_methods(self):
        own = {node.name for _, node in self.nodes(ast.FunctionDef)}
        for name, node in self.nodes(ast.Call):
            if isinstance(node.func, ast.Attribute):
                self.assertIn(node.func.attr, METHODS | own, (name, node.lineno))

    def test_parameters_have_no_name_of_a_class_or_an_import(self):
        for name, tree in self.trees.items():
            taken = {node.name for node in tree.body if isinstance(node, ast.ClassDef)}
            taken |= {alias.name for node in tree.body if isinstance(node, ast.ImportFrom) for alias in node.names}
            for node in ast.walk(tree):
                if isinstance(node, ast.arg):
                    self.assertNotIn(node.arg, taken, name)
                if isinstance(node, ast.Name) and isinstance(node.ctx, ast.Store):
                    self.assertNotIn(node.id, taken, name)

    def test_names(self):
        for name, node in self.nodes(ast.Name, ast.arg, ast.FunctionDef, ast.ClassDef, ast.Attribute):
            word = getattr(node, "id", None) or getattr(node, "arg", None) or getattr(node, "name", None) or node.attr
            fits = word == "_" or word in DOUBLE or re.fullmatch("_?[A-Za-z][A-Za-z0-9_]*", word)
            self.assertTrue(fits, (name, word))
            self.assertNotIn(word, NO_NAMES, name)

    def test_words_that_stand_nowhere(self):
        for name, tree in self.trees.items():
            for row in ast.unparse(tree).split("\n"):
                self.assertIsNone(NO_WORDS.search(row), (name, row))

    def test_nothing_is_iterated_that_is_kept_or_made_on_the_way(self):
        # No generators, and no set is kept: dicts and lists do.
        self.assertEqual(self.nodes(ast.GeneratorExp, ast.Yield, ast.YieldFrom, ast.Set, ast.SetComp), [])
        for name, node in self.nodes(ast.Assign):
            if isinstance(node.value, ast.Call) and isinstance(node.value.func, ast.Name):
                self.assertNotIn(node.value.func.id, ("set", "zip", "enumerate", "reversed", "map", "range"), (name, node.lineno))

    def test_what_a_loop_goes_over_is_not_changed_in_it(self):
        changing = ("append", "extend", "insert", "pop", "remove", "clear", "update", "setdefault", "sort", "reverse")
        for name, node in self.nodes(ast.For):
            over = {part.id for part in ast.walk(node.iter) if isinstance(part, ast.Name)}
            for part in [inner for row in node.body for inner in ast.walk(row)]:
                if isinstance(part, ast.Call) and isinstance(part.func, ast.Attribute) and part.func.attr in changing:
                    self.assertNotIn(getattr(part.func.value, "id", None), over, (name, part.lineno))
                if isinstance(part, ast.Subscript) and not isinstance(part.ctx, ast.Load):
                    self.assertNotIn(getattr(part.value, "id", None), over, (name, part.lineno))


if __name__ == "__main__":
    unittest.main()
