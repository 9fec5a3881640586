"""The files of the package keep to the rules of the language."""

import ast
import os
import re
import unittest

import farseen
from tests import form

FOLDER = os.path.dirname(farseen.__file__)


def texts():
    found = {}
    for name in sorted(os.listdir(FOLDER)):
        if name != "__pycache__":
            with open(os.path.join(FOLDER, name), encoding="ascii") as file:
                found[name] = file.read()
    return found


class FormTest(unittest.TestCase):

    def setUp(self):
        self.texts = texts()
        self.classes = {node.name for text in self.texts.values() for node in ast.walk(ast.parse(text))
                        if isinstance(node, ast.ClassDef)}

    def test_files(self):
        self.assertIn("__init__.py", self.texts)
        self.assertLessEqual(len(self.texts), 100)
        for name in self.texts:
            self.assertTrue(name == "__init__.py" or re.fullmatch(r"[a-z][a-z0-9_]*\.py", name), name)

    def test_each_file(self):
        own = form.own_methods(self.texts.values())
        for name, text in self.texts.items():
            with self.subTest(name):
                self.assertEqual(form.Reader(name, text, own).read(), [])
                self.assertEqual(form.unused(name, text), [])

    def test_classes(self):
        for name, text in self.texts.items():
            self.assertEqual(form.class_faults(name, text, self.classes), [])
            self.assertEqual(form.methods_off_classes(name, text, self.classes, {"read"}), [])

    def test_imports(self):
        ahead = {}
        for name, text in self.texts.items():
            module = "farseen." + name[:-3]
            ahead[module] = set()
            for other, word in form.imports_of(text):
                ahead[module].add(other)
                self.assertIn(word, form.defined_in(self.texts[other.split(".")[1] + ".py"]), name)
        while ahead:
            free = [module for module in ahead if not ahead[module] & set(ahead)]
            self.assertTrue(free, "files import from each other: " + str(ahead))
            ahead = {module: ahead[module] for module in ahead if module not in free}

    def test_attributes_are_assigned(self):
        assigned, read = set(), set()
        for text in self.texts.values():
            for node in ast.walk(ast.parse(text)):
                if isinstance(node, ast.Attribute):
                    (read if isinstance(node.ctx, ast.Load) else assigned).add(node.attr)
        methods = form.own_methods(self.texts.values())
        self.assertEqual(read - assigned - methods - form.METHODS - {"__class__", "__name__"}, set())


if __name__ == "__main__":
    unittest.main()
