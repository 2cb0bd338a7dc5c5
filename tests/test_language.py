"""The package's files keep to the rules of the language that they are written in."""

import pathlib
import unittest

from language_rules import PACKAGE, breaches, drawn_from, methods_of

FOLDER = pathlib.Path(__file__).resolve().parent.parent / PACKAGE
FILES = sorted(path for path in FOLDER.rglob("*") if path.is_file() and "__pycache__" not in path.parts)

BAD_TEXTS = [
    "import sys\n",
    "from os import path\n",
    "from .errors import BadTown\n",
    "from bridgecrews.errors import *\n",
    "print(1)\n",
    "a = 1\na = 2\n",
    "a = list()\n",
    "def f(*xs):\n    return xs\n",
    "def f(a, *, b):\n    return a\n",
    "def f():\n    return 1 / 2\n",
    "def f():\n    return 0.5\n",
    "def f():\n    return b''\n",
    "def f(x):\n    with x:\n        pass\n",
    "def f(x):\n    assert x\n",
    "def f(x):\n    yield x\n",
    "def f(x):\n    return [a for b in x for a in b]\n",
    "def f(x):\n    return {a for a in x}\n",
    "def f(x):\n    return sum(a for a in x)\n",
    "def f(x):\n    a = b = x\n    return a + b\n",
    "def f(x):\n    for a in x:\n        pass\n    else:\n        pass\n",
    "def f(x):\n    return x is 3\n",
    "def f(x):\n    return x is 1\n",
    "def f(x):\n    'words'\n    return x\n",
    "def f(x):\n    raise ValueError\n",
    "def f(x):\n    return 2 ** x\n",
    "def f(x):\n    return f'{x + 1}'\n",
    "def f(x):\n    return f'{x:3}'\n",
    "def f(x):\n    return '%'\n",
    "def f(x):\n    return chr(x)\n",
    "def f(x):\n    return map(x, x)\n",
    "def f(id):\n    return id\n",
    "def f(x):\n    min = x\n    return min\n",
    "def f(x):\n    _y = x\n    return _y\n",
    "def f(x):\n    x.sort()\n",
    "def f(x):\n    x.intersection(x)\n",
    "def f(x):\n    return f(*x)\n",
    "def f(x):\n    try:\n        f(x)\n    except:\n        pass\n",
    "def f(x):\n    try:\n        f(x)\n    except Exception:\n        pass\n",
    "class A:\n    b = 1\n",
    "class A:\n    @property\n    def b(self):\n        return 1\n",
    "class A(int, str):\n    pass\n",
    "# the type of it\n",
    "# a dataclasses thing\n",
    "# \u00e4\n",
    "def f():\n\treturn 1\n",
    "# " + "x" * 120 + "\n",
    "# x\n" * 401,
    "def f(x):\n" + "    x = x + 1\n" * 40,
]
GOOD_TEXT = '''"""A text."""

from bridgecrews.errors import BadTown

MOST = 3
NAMES = ["a", "b"]


class Keeper:
    def __init__(self, many):
        self.many = many
        self.kept = {}

    def add_one(self, name):
        self.kept[name] = True


def told(numbers):
    keeper = Keeper(len(numbers))
    for place, number in enumerate(numbers):
        if number is None or number > 10 ** 60:
            raise BadTown(f"the number at {place}")
        keeper.add_one(number)
    return sorted([number * 2 for number in keeper.kept if number < MOST], reverse=True)
'''


class ThePackage(unittest.TestCase):
    def test_every_file_keeps_to_the_rules(self):
        texts = {path: path.read_bytes().decode("utf-8") for path in FILES}
        own_methods = methods_of(texts.values())
        for path, text in texts.items():
            with self.subTest(path.name):
                self.assertEqual(breaches(path.name, text, own_methods), [])

    def test_it_is_one_folder_with_an_init(self):
        self.assertIn(FOLDER / "__init__.py", FILES)
        self.assertEqual({path.parent for path in FILES}, {FOLDER})

    def test_no_two_files_draw_from_one_another(self):
        left = {path.stem: drawn_from(path.read_text("utf-8")) for path in FILES}
        while left:
            free = [name for name, drawn in left.items() if not any(other in left for other in drawn)]
            self.assertTrue(free, f"files that draw from one another: {sorted(left)}")
            left = {name: drawn for name, drawn in left.items() if name not in free}


class TheRules(unittest.TestCase):
    def test_what_is_out_is_seen(self):
        for text in BAD_TEXTS:
            with self.subTest(text[:200]):
                self.assertNotEqual(breaches("plain.py", text), [])

    def test_file_names_that_are_out_are_seen(self):
        for name in ("Plain.py", "plain.txt", "test_plain.py", "tests.py", "range.py", "enum.py"):
            with self.subTest(name):
                self.assertNotEqual(breaches(name, GOOD_TEXT, {"add_one"}), [])

    def test_what_is_in_is_let_through(self):
        self.assertEqual(breaches("plain.py", GOOD_TEXT, methods_of([GOOD_TEXT])), [])


if __name__ == "__main__":
    unittest.main()
