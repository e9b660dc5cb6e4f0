"""What can be seen of the package's files alone: the interface's names, sizes, characters."""

import ast
import importlib
import inspect
import pathlib
import re
import unittest
import warnings

PACKAGE = pathlib.Path(__file__).resolve().parent.parent / "textworths"
FILES = sorted(PACKAGE.rglob("*.py"))

# Functions and classes by file, with the parameters that the document gives them.
INTERFACE = {
    "numbers": {
        "number": ["above", "below"], "added": ["one", "other"], "product": ["one", "other"],
        "quotient": ["one", "other"], "power": ["one", "times"],
    },
    "machines": {"Machine": ["signs", "begin", "roads", "end"]},
    "tariffs": {
        "Tariff": ["signs", "heads", "table", "worths"], "tariff_of": ["machine"], "machine_of": ["tariff"],
        "first_apart": ["one", "other"], "first_worth": ["tariff"], "told_by": ["tariff", "others"],
        "free_ones": ["tariffs"],
    },
    "closures": {
        "plus": ["one", "other"], "scaled": ["one", "number"], "each": ["one", "other"], "behind": ["one", "other"],
        "again": ["one"], "undone": ["one", "other"], "shuffled": ["one", "other"], "within": ["one"],
        "turned": ["one"], "rest": ["one", "message"], "before": ["one", "message"],
        "led": ["one", "signs", "words"], "spelled": ["one", "signs", "words"], "only": ["one", "signs"],
        "all_alike": ["signs", "number"], "just": ["signs", "message"], "lengths": ["signs"],
        "places": ["signs", "part"], "powers": ["one", "times"],
    },
    "patterns": {
        "ways": ["signs", "pattern"], "readings": ["signs", "pattern", "message"], "is_single": ["signs", "pattern"],
        "first_double": ["signs", "pattern"], "same_ways": ["signs", "one", "other"],
        "same_messages": ["signs", "one", "other"], "first_fit_apart": ["signs", "one", "other"],
        "without": ["signs", "pattern", "sign"], "least_fit": ["signs", "pattern"],
    },
    "texts": {
        "show_number": ["number"], "show_pattern": ["pattern"], "show_machine": ["machine"], "show_tariff": ["tariff"],
    },
    "readings": {
        "read_number": ["text"], "read_pattern": ["text"], "read_machine": ["text"], "read_tariff": ["text"],
    },
    "sums": {
        "total": ["tariff", "length"], "totals": ["tariff", "many"], "mean": ["tariff", "length"],
        "recurrence": ["tariff"], "first_total": ["tariff"], "first_unlike_total": ["one", "other"],
        "part_total": ["tariff", "sign", "times", "length"], "counted": ["tariff", "sign"], "last_out": ["tariff"],
        "first_out": ["tariff"],
    },
    "chances": {
        "is_source": ["tariff"], "evenly": ["signs"], "after": ["source", "message"],
        "expected": ["source", "tariff", "length"], "spread": ["source", "tariff", "length"],
        "seen_by": ["source", "part", "length"], "first_seen_at": ["source", "part", "length"],
        "independent": ["source"], "remembers": ["source", "most"], "mixed": ["sources", "shares"],
    },
    "books": {
        "Book": ["signs", "words", "letters"], "ways": ["book"], "is_one_way": ["book"], "first_double": ["book"],
        "is_plain": ["book"], "delay": ["book"], "measure": ["book"], "is_full": ["book"],
        "sure_beginning": ["book", "text"], "first_common": ["one", "other"], "behind_book": ["one", "other"],
    },
    "questions": {
        "asked": ["signs", "size"], "next_message": ["signs", "size", "answers"],
        "told_back": ["signs", "size", "answers"], "least_size": ["signs", "half", "answers"],
        "first_false": ["tariff", "answers"], "fitting": ["tariffs", "answers"],
        "fewest_messages": ["tariffs", "length"],
    },
    "desks": {"Desk": ["signs"]},
}
METHODS = {
    ("machines", "Machine"): {"__call__": ["message"], "courses": ["message"], "__len__": [], "__eq__": ["other"]},
    ("tariffs", "Tariff"): {"__call__": ["message"], "__len__": [], "__eq__": ["other"]},
    ("books", "Book"): {
        "written": ["message"], "messages": ["text"], "decoded": ["text"], "__len__": [], "__eq__": ["other"],
    },
    ("desks", "Desk"): {
        "forks": [], "names": [], "ledger": [], "__len__": [], "put": ["name", "tariff"], "make": ["name", "deed"],
        "drop": ["name"], "send": ["name", "message"], "branch": ["name"], "switch": ["name"], "undo": [],
        "worth": ["name", "message"], "apart": ["name", "other"], "total": ["name", "length"], "form": ["name"],
        "ledger_sum": [], "same_as": ["name"], "order": ["text"],
    },
}
PROPERTIES = {
    ("machines", "Machine"): ["signs", "begin", "roads", "end"],
    ("tariffs", "Tariff"): ["signs", "heads", "table", "worths"],
    ("books", "Book"): ["signs", "words", "letters"],
    ("desks", "Desk"): ["signs", "fork"],
}


def parameters(thing):
    return [name for name in inspect.signature(thing).parameters if name != "self"]


def indexed_at_once(text):
    """Returns the rows with a slice or an index directly behind what is iterated on the spot."""
    found = []
    for node in ast.walk(ast.parse(text)):
        if isinstance(node, ast.Subscript) and isinstance(node.value, ast.Call):
            called = node.value.func
            if isinstance(called, ast.Name) and called.id in ("range", "zip", "enumerate", "reversed"):
                found.append(node.lineno)
            if isinstance(called, ast.Attribute) and called.attr in ("items", "keys", "values"):
                found.append(node.lineno)
    return found


class Interface(unittest.TestCase):
    def test_names_and_parameters(self):
        for file, names in INTERFACE.items():
            module = importlib.import_module("textworths." + file)
            for name, wanted in names.items():
                thing = getattr(module, name)
                self.assertEqual(thing.__module__, "textworths." + file)
                self.assertEqual(parameters(thing), wanted, name)

    def test_methods_stand_in_the_class_itself(self):
        for (file, name), methods in METHODS.items():
            own = vars(getattr(importlib.import_module("textworths." + file), name))
            for method, wanted in methods.items():
                self.assertEqual(parameters(own[method]), wanted, method)

    def test_properties_stand_in_the_class_itself(self):
        for (file, name), properties in PROPERTIES.items():
            own = vars(getattr(importlib.import_module("textworths." + file), name))
            for each in properties:
                self.assertIsInstance(own[each], property)


class Files(unittest.TestCase):
    def test_only_python_files(self):
        self.assertTrue((PACKAGE / "__init__.py").is_file())
        others = [
            path for path in PACKAGE.rglob("*")
            if path.is_file() and path.suffix != ".py" and path.parent.name != "__pycache__"
        ]
        self.assertEqual(others, [])

    def test_sizes_and_characters(self):
        for path in FILES:
            text = path.read_bytes().decode("ascii")
            lines = text.split("\n")
            self.assertTrue(all(character == "\n" or " " <= character <= "~" for character in text), path)
            self.assertLessEqual(len(lines), 400, path)
            self.assertLessEqual(max(map(len, lines)), 120, path)
            for node in ast.walk(ast.parse(text)):
                if isinstance(node, ast.FunctionDef):
                    self.assertLessEqual(node.end_lineno - node.lineno + 1, 40, (path, node.name))

    def test_no_warnings(self):
        with warnings.catch_warnings():
            warnings.simplefilter("error")
            for path in FILES:
                compile(path.read_text(), str(path), "exec")

    def test_imports(self):
        allowed = re.compile(r"textworths\.\w+|math|heapq|itertools|collections")
        for path in FILES:
            for node in ast.walk(ast.parse(path.read_text())):
                self.assertNotIsInstance(node, ast.Import, path)
                if isinstance(node, ast.ImportFrom):
                    self.assertEqual(node.level, 0, path)
                    self.assertTrue(allowed.fullmatch(node.module), (path, node.module))

    def test_no_floats(self):
        for path in FILES:
            for node in ast.walk(ast.parse(path.read_text())):
                self.assertNotIsInstance(node, ast.Div, path)
                if isinstance(node, ast.Constant):
                    self.assertNotIsInstance(node.value, (float, complex), path)

    def test_nothing_iterated_at_once_has_an_index(self):
        for path in FILES:
            self.assertEqual(indexed_at_once(path.read_text()), [], path)

    def test_an_index_on_what_is_iterated_at_once_is_seen(self):
        wrong = [
            "range(3)[::-1]", "range(3)[0]", "zip(a, b)[0]", "enumerate(a)[1:]", "reversed(a)[0]",
            "d.items()[0]", "d.keys()[:2]", "self.d.values()[-1]", "(range(3))\\\n[::-1]",
        ]
        right = ["list(range(3))[::-1]", "reversed(range(3))", "range(3, -1, -1)", "range(a[0])", "d.get(1)[0]"]
        for text in wrong:
            self.assertEqual(indexed_at_once(text), [1], text)
        for text in right:
            self.assertEqual(indexed_at_once(text), [], text)


if __name__ == "__main__":
    unittest.main()
