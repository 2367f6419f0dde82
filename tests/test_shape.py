"""The interface stands where the document lists it, and the files keep the rules that a test can see."""

import ast
import importlib
import inspect
import os
import unittest

PACKAGE = os.path.join(os.path.dirname(os.path.dirname(os.path.abspath(__file__))), "cuelight")

LISTED = {
    "errors": {"LightError": [], "BadNet": [], "BadState": [], "BadDeed": [], "NoCut": [], "NoPlan": [],
               "BadText": []},
    "nets": {"Net": ["places", "lines", "sources"]},
    "states": {"lit": ["net", "closed"], "loads": ["net", "closed"]},
    "cuts": {"parted": ["net", "broken", "place"], "keeps": ["net", "broken"], "weak": ["net", "broken"]},
    "best": {"best": ["net", "broken"]},
    "plans": {"plan": ["net", "closed", "broken", "dark"], "relit": ["net", "closed", "broken", "dark"]},
    "desks": {"Desk": ["does", "breaks", "closed", "broken", "lights", "deeds"]},
    "notes": {"written": ["net"], "read": ["text"]},
}

OUTSIDE = [("itertools", ["combinations"])]


def files():
    return sorted(name for name in os.listdir(PACKAGE) if name != "__pycache__")


def source(name):
    with open(os.path.join(PACKAGE, name), encoding="utf-8") as told:
        return told.read()


class Interface(unittest.TestCase):
    def test_each_name_is_defined_in_its_file(self):
        for file, names in LISTED.items():
            module = importlib.import_module("cuelight." + file)
            for name, parts in names.items():
                found = getattr(module, name)
                self.assertEqual(found.__module__, "cuelight." + file)
                if inspect.isclass(found):
                    self.assertTrue(all(part in vars(found) for part in parts))
                else:
                    self.assertEqual(list(inspect.signature(found).parameters), parts)

    def test_arguments_of_classes_and_methods(self):
        net = importlib.import_module("cuelight.nets").Net
        self.assertEqual(list(inspect.signature(net).parameters), ["needs", "sources", "lines"])
        desk = importlib.import_module("cuelight.desks").Desk
        self.assertEqual(list(inspect.signature(desk).parameters), ["net", "closed", "broken"])
        self.assertEqual(list(inspect.signature(desk.does).parameters), ["self", "deed"])
        self.assertEqual(list(inspect.signature(desk.breaks).parameters), ["self", "line"])


class Files(unittest.TestCase):
    def test_only_plain_source_files(self):
        self.assertTrue(all(name.endswith(".py") for name in files()))
        self.assertIn("__init__.py", files())

    def test_sizes_and_signs(self):
        for name in files():
            text = source(name)
            self.assertTrue(all(sign == "\n" or " " <= sign <= "~" for sign in text), name)
            rows = text.split("\n")
            self.assertLess(len(rows), 400, name)
            self.assertTrue(all(len(row) <= 120 for row in rows), name)
            for part in ast.walk(ast.parse(text)):
                if isinstance(part, ast.FunctionDef):
                    self.assertLessEqual(part.end_lineno - part.lineno + 1, 40, part.name)

    def test_imports_name_the_file_that_defines(self):
        for name in files():
            for part in ast.walk(ast.parse(source(name))):
                self.assertNotIsInstance(part, ast.Import)
                if isinstance(part, ast.ImportFrom):
                    if (part.module, [one.name for one in part.names]) in OUTSIDE:
                        continue
                    self.assertTrue(part.module.startswith("cuelight."), part.module)
                    defined = ast.parse(source(part.module.split(".")[1] + ".py")).body
                    for one in part.names:
                        self.assertIn(one.name, [row.name for row in defined if hasattr(row, "name")])


if __name__ == "__main__":
    unittest.main()
