"""Every example of the document, as written: tests/examples.txt keeps them by section."""

import importlib
import os
import unittest

from farseen import errors

EXAMPLES = os.path.join(os.path.dirname(__file__), "examples.txt")


def read_examples():
    """Triples of a section, a row of code and what it shows."""
    found, section = [], None
    with open(EXAMPLES, encoding="ascii") as file:
        for line in file.read().splitlines():
            if line.startswith("## "):
                section = line[3:]
            elif line.startswith(">>> "):
                found.append((section, line[4:], []))
            else:
                found[-1][2].append(line)
    return found


def all_files():
    """The names of all files of the package."""
    return sorted(file[:-3] for file in os.listdir(os.path.dirname(errors.__file__)) if file.endswith(".py") and file != "__init__.py")


def names_of_errors():
    return {name: value for name, value in vars(errors).items() if isinstance(value, type)}


def names_in(section):
    """What the file of this section defines."""
    module = importlib.import_module("farseen." + section)
    return {name: value for name, value in vars(module).items()
            if name.isupper() or getattr(value, "__module__", None) == module.__name__ and not name.startswith("_")}


def told_by(error):
    """The class and the fields of an error, those of an error within, too."""
    return (type(error), {name: told_by(value) if isinstance(value, errors.SeenError) else value for name, value in vars(error).items()})


class ExamplesTest(unittest.TestCase):

    def check_raised(self, code, told, names):
        right = eval(told, {**names, **names_of_errors()})
        with self.assertRaises(errors.SeenError) as caught:
            exec(code, names)
        self.assertEqual(told_by(caught.exception), told_by(right))

    def test_examples(self):
        examples = read_examples()
        self.assertEqual(len(examples), 146)
        names, last = {}, None
        for section in all_files():
            names.update(names_in(section))
        for section, code, shown in examples:
            if section != last:
                # An example ahead may have given the name to another value.
                names.update(names_in(section))
                last = section
            with self.subTest(section=section, code=code):
                if not shown:
                    exec(code, names)
                elif shown[0].startswith("raises "):
                    self.check_raised(code, shown[0][7:], names)
                else:
                    self.assertEqual(repr(eval(code, names)), "\n".join(shown))


if __name__ == "__main__":
    unittest.main()
