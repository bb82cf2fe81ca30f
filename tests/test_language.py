import pathlib
import unittest

import language

ROOT = pathlib.Path(__file__).resolve().parent.parent
FOLDER = ROOT / language.PACKAGE

GOOD = '''"""A file that keeps to the rules."""

from gatebook.errors import Ring

STEPS = (1, 2, 3)
WORDS = {"give": "given", "bar": "barred"}


class Keeper:
    def __init__(self, names):
        self.names = list(names)

    def put(self, name):
        self.names.append(name)


def longest(names, least=0):
    found = [name for name in names if len(name) > least]
    for number, name in enumerate(found):
        if number == 7 and name is not None:
            raise Ring(f"{name} is {number!r}")
    keeper = Keeper(sorted(found, key=len, reverse=True))
    keeper.put(WORDS["give"])
    try:
        keeper.put(WORDS["none"])
    except KeyError:
        pass
    return max(keeper.names, key=lambda name: (len(name), name), default=None)
'''

# Each piece breaks one rule; it stands in a file of its own.
BROKEN = (
    ("L2", "import os\n"),
    ("L2", "import sys\n"),
    ("L2", "from .errors import Ring\n"),
    ("L2", "from random import choice\n"),
    ("L2", "from gatebook.errors import *\n"),
    ("L2", "def f():\n    from gatebook.errors import Ring\n    return Ring()\n"),
    ("L3", "for number in range(3):\n    pass\n"),
    ("L3", "WAYS = sorted([2, 1])\n"),
    ("L4", "def f(*many):\n    return many\n"),
    ("L4", "def f(**many):\n    return many\n"),
    ("L4", "def f(a, *, b):\n    return b\n"),
    ("L4", "def f(a=[]):\n    return a\n"),
    ("L5", "class A:\n    x = 1\n"),
    ("L5", "class A:\n    pass\n\n\nclass B:\n    pass\n\n\nclass C(A, B):\n    pass\n"),
    ("L6", "def f(a):\n    del a[0]\n"),
    ("L6", "def f(a):\n    assert a\n"),
    ("L6", "def f(a):\n    for b in a:\n        pass\n    else:\n        pass\n"),
    ("L6", "def f(a):\n    b = c = a\n    return b + c\n"),
    ("L6", "def f(a):\n    a\n"),
    ("L7", "def f():\n    return 1.5\n"),
    ("L7", "def f():\n    return b'a'\n"),
    ("L7", "def f(a):\n    return a / 2\n"),
    ("L7", "def f(a):\n    return {b for b in a}\n"),
    ("L7", "def f(a):\n    return {b: 1 for b in a}\n"),
    ("L7", "def f(a):\n    return any(b for b in a)\n"),
    ("L7", "def f(a):\n    return [b for c in a for b in c]\n"),
    ("L7", "def f(a):\n    return f'{a:3}'\n"),
    ("L7", "def f(a):\n    return [*a]\n"),
    ("L8", "def f(a):\n    return print(a)\n"),
    ("L8", "def f(a):\n    return set(a)\n"),
    ("L8", "def f(a):\n    return chr(a)\n"),
    ("L10", "def f(a):\n" + "    a = a + 1\n" * 39 + "    return a\n"),
    ("L10", "A = 1\n" + "# row\n" * 400),
    ("L10", "# " + "a" * 119 + "\n"),
    ("L12", "def _f(a):\n    return a\n"),
    ("L12", "def f(_):\n    return 1\n"),
    ("L13", "def f(a):\n    return [lambda x: x, lambda x: a]\n"),
    ("L14", "# caf\u00e9\n"),
    ("L14", "def f(a):\n    return a\t+ 1\n"),
    ("L15", "A = 1\nA = 2\n"),
    ("L15", "A = [[1], [2]]\n"),
    ("L15", "A = [1]\n\n\ndef f():\n    A.append(2)\n"),
    ("L15", "A = {}\n\n\ndef f(k):\n    A[k] = 2\n"),
    ("L15", "A = [1]\n\n\ndef f():\n    return A\n"),
    ("L15", "def f(hash):\n    return hash\n"),
    ("L15", "def f():\n    class A:\n        pass\n    return A()\n"),
    ("L16", "from gatebook.errors import Missing\n"),
    ("L16", "from gatebook.piece import g\n\n\ndef f():\n    return g()\n"),
    ("L17", "# the enum of words\n"),
    ("L17", "def f(a):\n    return a.open\n"),
    ("L18", "class A(StopIteration):\n    pass\n"),
    ("L18", "class A:\n    def f(self):\n        pass\n\n    def f(self):\n        pass\n"),
    ("L19", "def f(a):\n    try:\n        return a[0]\n    except Exception:\n        return 0\n"),
    ("L19", "def f(a):\n    try:\n        return a[0]\n    except:\n        return 0\n"),
    ("L20", "def f(a, b):\n    return a is b\n"),
    ("L21", "def f(a: int):\n    return a\n"),
    ("L21", "def f(a) -> int:\n    return a\n"),
    ("L22", "def f(a):\n    return int(a, base=2)\n"),
    ("L22", "def f(a):\n    return [len, a]\n"),
    ("L23", "def f(a):\n    b = zip(a, a)\n    return list(b)\n"),
    ("L23", "def f(a):\n    return a.items()\n"),
    ("L23", "def f(a):\n    for b in a:\n        a.append(b)\n"),
    ("L23", "def f(a):\n    for k, v in a.items():\n        a[k] = v\n"),
    ("L25", "def f(a):\n    a.sort()\n"),
    ("L25", "def f(a):\n    return a.encode()\n"),
    ("L25", "def f(a):\n    b = a.append\n    return b(1)\n"),
    ("L15", "from gatebook.errors import Ring\n\n\ndef f(Ring):\n    return Ring\n"),
    ("L15", "class A:\n    pass\n\n\ndef f():\n    A = 1\n    return A\n"),
    ("L18", "class A:\n    def f(self):\n        self.g = 1\n\n\nclass B:\n    def g(self):\n        return 1\n"),
    ("L26", "class A:\n    def __init__(self):\n        self.items = []\n"),
    ("L26", "class A:\n    def encode(self):\n        return 1\n"),
    ("L28", "class A:\n    def __init__(self):\n        return None\n"),
    ("L27", "def f(a):\n    return 2 ** a\n"),
    ("L27", "def f(a):\n    return a + '%'\n"),
)


def package_texts():
    return {path.name: path.read_text(encoding="utf-8") for path in sorted(FOLDER.glob("*.py"))}


def faults_of(text, name="piece.py"):
    texts = {
        "__init__.py": "",
        "errors.py": "class Ring(ValueError):\n    pass\n",
        name: text,
    }
    return language.faults(texts)


class PackageTest(unittest.TestCase):
    def test_files_keep_to_the_rules(self):
        self.assertEqual(language.faults(package_texts()), [])

    def test_nothing_but_files_of_the_program_lies_in_the_folder(self):
        others = [path.name for path in FOLDER.iterdir() if path.suffix != ".py" and path.name != "__pycache__"]
        self.assertEqual(others, [])

    def test_rows_end_with_a_line_feed_alone(self):
        for path in FOLDER.glob("*.py"):
            self.assertNotIn(b"\r", path.read_bytes())

    def test_the_asked_modules_are_there(self):
        for name in (
            "__init__.py", "errors.py", "circles.py", "places.py", "rules.py", "house.py", "story.py", "lines.py",
        ):
            self.assertIn(name, package_texts())


class CheckTest(unittest.TestCase):
    def test_a_file_that_keeps_to_the_rules_has_no_fault(self):
        self.assertEqual(faults_of(GOOD), [])

    def test_each_broken_piece_is_found(self):
        for rule, text in BROKEN:
            with self.subTest(rule=rule, text=text):
                self.assertIn(rule, [fault[0] for fault in faults_of(text)])

    def test_file_names(self):
        for name in ("Piece.py", "test_piece.py", "tests.py", "filter.py", "enum.py"):
            with self.subTest(name=name):
                self.assertIn("L14", [fault[0] for fault in faults_of("A = 1\n", name)])

    def test_a_package_without_its_first_file(self):
        self.assertIn("L14", [fault[0] for fault in language.faults({"piece.py": "A = 1\n"})])

    def test_files_that_draw_from_one_another(self):
        texts = {
            "__init__.py": "",
            "one.py": "from gatebook.two import g\n\n\ndef f():\n    return g()\n",
            "two.py": "from gatebook.one import f\n\n\ndef g():\n    return f()\n",
        }
        self.assertEqual([fault[:2] for fault in language.faults(texts)], [("L16", "one.py"), ("L16", "two.py")])


if __name__ == "__main__":
    unittest.main()
