"""The package keeps to LANGUAGE.md, and the finder of faults finds them."""

import os
import unittest

from language import faults

FOLDER = os.path.join(os.path.dirname(os.path.dirname(os.path.abspath(__file__))), "vatyard")

GOOD = '''"""A file that keeps to the rules."""

from vatyard.errors import Wrong

BOUNDS = {"a": (1, 2), "b": (3, 4)}
SIGNS = "abc"


class Heap:
    def __init__(self, first):
        self.first = first

    def least(self, sure=True):
        return min(self.first) if sure else None

    def __len__(self):
        return len(self.first)


class Other(Heap):
    def least(self, sure=True):
        return BOUNDS["a"][0]


def walk(rows):
    told = []
    for number, row in enumerate(rows):
        if row not in BOUNDS or number in set(rows):
            raise Wrong(f"{row!r} at {number}")
        told.append(sorted([part for part in row if part in SIGNS], key=lambda part: -ord(part)))
    try:
        return int(rows[0])
    except ValueError:
        return len(told) % 2 ** 3 if told is None else isinstance(told, (list, Heap))
'''

WRONG = '"""Errors."""\n\n\nclass Wrong(ValueError):\n    pass\n'

# A row of each: the rule that is broken, and the file that breaks it.
BAD = (
    ("L2", "import os\n"),
    ("L2", "from .errors import Wrong\n"),
    ("L2", "from vatyard.errors import *\n"),
    ("L2", "from os import path\n"),
    ("L2", "def f():\n    from vatyard.errors import Wrong\n    return 1\n"),
    ("L3", "for k in (1, 2):\n    pass\n"),
    ("L3", "A = 2 + 3\n"),
    ("L3", "A = list((1, 2))\n"),
    ("L4", "def f(*rows):\n    return 1\n"),
    ("L4", "def f(**rows):\n    return 1\n"),
    ("L4", "def f(*, row):\n    return 1\n"),
    ("L4", "def g(row):\n    return row\n\n\n@g\ndef f(row):\n    return 1\n"),
    ("L5", "class A:\n    size = 1\n"),
    ("L5", "class A(dict):\n    pass\n"),
    ("L5", "class A:\n    def __add__(self, b):\n        return 1\n"),
    ("L6", "def f(row):\n    with row:\n        pass\n"),
    ("L6", "def f(row):\n    assert row\n"),
    ("L6", "def f(row):\n    a = b = row\n    return a + b\n"),
    ("L6", "def f(row):\n    for k in row:\n        pass\n    else:\n        return 1\n"),
    ("L6", "def f(row):\n    row\n"),
    ("L6", "def f(row):\n    try:\n        return 1\n    finally:\n        row()\n"),
    ("L7", "def f(row):\n    return row / 2\n"),
    ("L7", "A = 1.5\n"),
    ("L7", "A = b'a'\n"),
    ("L7", "def f(row):\n    return {k: k for k in row}\n"),
    ("L7", "def f(row):\n    return sum(k for k in row)\n"),
    ("L7", "def f(row):\n    return [k + j for k in row for j in row]\n"),
    ("L7", "def f(row):\n    return f'{row + 1}'\n"),
    ("L7", "def f(row):\n    return f'{row:>3}'\n"),
    ("L7", "def f(row):\n    return [*row]\n"),
    ("L7", "def f(row):\n    return (k := row)\n"),
    ("L8", "def f(row):\n    return round(row)\n"),
    ("L8", "def f(row):\n    print(row)\n"),
    ("L8", "def sum(row):\n    return 1\n"),
    ("L10", "def f(row):\n" + "    row = row + 1\n" * 40),
    ("L10", "A = 1\n" + "\n" * 400),
    ("L10", "A = '" + "a" * 120 + "'\n"),
    ("L10", "def f(row):\n\treturn row\n"),
    ("L12", "def f(row):\n    _a = row\n    return 1\n"),
    ("L12", "def f(row):\n    for _ in row:\n        pass\n"),
    ("L13", "def f(row):\n    return len({1, 2, 3})\n"),
    ("L13", "def f(row):\n    return (lambda a: a)(row) + (lambda a: 2)(row)\n"),
    ("L14", "A = '\u00e4'\n"),
    ("L15", "A = 1\nA = 2\n"),
    ("L15", "A = [[1], [2]]\n"),
    ("L15", "A = [1]\n\n\ndef f(row):\n    A.append(row)\n"),
    ("L15", "A = [1]\n\n\ndef f(row):\n    A[0] = row\n"),
    ("L15", "A = [1]\n\n\ndef f():\n    return A\n"),
    ("L15", "def f(id):\n    return 1\n"),
    ("L15", "def f(row):\n    map = row\n    return 1\n"),
    ("L15", "class A:\n    pass\n\n\ndef f(A):\n    return 1\n"),
    ("L15", "from vatyard.errors import Wrong\n\n\ndef f(row):\n    Wrong = row\n"),
    ("L16", "from vatyard.errors import Missing\n"),
    ("L16", "from vatyard.bad import f\n\n\ndef f():\n    return 1\n"),
    ("L17", "# the type of a row\nA = 1\n"),
    ("L17", "def f(row):\n    return getattr(row, 'a')\n"),
    ("L17", "def f(row):\n    return row.mro()\n"),
    ("L18", "class A:\n    pass\n\n\ndef f(row):\n    row.append(A)\n"),
    ("L18", "class A:\n    pass\n\n\ndef f(row):\n    A.most = row\n"),
    ("L18", "class A:\n    def most(self):\n        self.most = 1\n"),
    ("L18", "class A:\n    def f(self):\n        return 1\n\n    def f(self):\n        return 2\n"),
    ("L18", "class A(AttributeError):\n    pass\n"),
    ("L19", "def f(row):\n    try:\n        return row[0]\n    except Exception:\n        return 1\n"),
    ("L19", "def f(row):\n    try:\n        return f(row)\n    except ValueError:\n        return 1\n"),
    ("L19", "def f(row):\n    try:\n        return row.pop()\n    except IndexError:\n        return 1\n"),
    ("L19", "def f(row):\n    raise ValueError\n"),
    ("L20", "def f(row):\n    return row is 1\n"),
    ("L21", "def f(row):\n    def g(k: int):\n        return k\n    return g(row)\n"),
    ("L21", "def f(row):\n    k: int\n    return row\n"),
    ("L22", "def f(row):\n    return int('1', base=row)\n"),
    ("L22", "def f(row):\n    told = len\n    return told(row)\n"),
    ("L22", "def f(row):\n    return sorted(row, key=repr)\n"),
    ("L23", "def f(row):\n    told = zip(row, row)\n    return list(told)\n"),
    ("L23", "def f(row):\n    return row.items()\n"),
    ("L23", "def f(row):\n    for k in row:\n        row.append(k)\n"),
    ("L23", "def f(row):\n    for k, part in enumerate(row):\n        row[k] = part\n"),
    ("L24", "def f(row):\n    told = set(row)\n    return 1\n"),
    ("L24", "def f(row):\n    for k in set(row):\n        pass\n"),
    ("L25", "def f(row):\n    row.sort()\n"),
    ("L25", "def f(row):\n    told = row.append\n    return 1\n"),
    ("L26", "class A:\n    def __init__(self):\n        self.items = 1\n"),
    ("L26", "class A:\n    def sort(self):\n        return 1\n"),
    ("L27", "def f(row):\n    return 2 ** row\n"),
    ("L27", "A = 'a % b'\n"),
    ("L27", "A = 'a\\x41'\n"),
    ("L27", "def f(row):\n    return chr(row)\n"),
    ("L28", "class A:\n    def __init__(self):\n        return None\n"),
    ("L28", "class A:\n    def __len__(self):\n        return self.most()\n\n    def most(self):\n        return 1\n"),
    ("L28", "class A:\n    def __eq__(self, other):\n        self.most = 1\n        return True\n"),
)


def package_of(text):
    return {"__init__.py": '"""A package."""\n', "errors.py": WRONG, "bad.py": text}


class TheFinder(unittest.TestCase):
    def test_good_code_has_no_fault(self):
        self.assertEqual(faults(package_of(GOOD)), [])

    def test_each_broken_rule_is_found(self):
        for rule, text in BAD:
            with self.subTest(rule=rule, text=text):
                self.assertIn(rule, [found[0] for found in faults(package_of(text))])

    def test_names_of_files(self):
        for rule, name in (("L1", "a-b.py"), ("L1", "a.txt"), ("L14", "Yards.py"), ("L14", "tests.py"),
                           ("L14", "sum.py"), ("L14", "test_a.py"), ("L14", "enum.py")):
            with self.subTest(name=name):
                sources = package_of("A = 1\n")
                sources[name] = "A = 1\n"
                self.assertIn((rule, name, 1), faults(sources))

    def test_a_package_without_its_first_file(self):
        self.assertIn(("L14", "__init__.py", 1), faults({"a.py": "A = 1\n"}))

    def test_files_that_draw_from_one_another(self):
        sources = package_of("from vatyard.a import g\n\n\ndef f():\n    return g()\n")
        sources["a.py"] = "from vatyard.bad import f\n\n\ndef g():\n    return f()\n"
        self.assertEqual([found[:2] for found in faults(sources)], [("L16", "a.py"), ("L16", "bad.py")])

    def test_the_line_is_told(self):
        self.assertEqual(faults(package_of("A = 1\nB = 2\nC = 2.5\n")), [("L7", "bad.py", 3)])


class ThePackage(unittest.TestCase):
    def test_it_keeps_to_the_rules(self):
        sources = {}
        for name in sorted(os.listdir(FOLDER)):
            # Python itself leaves this folder behind; it is never committed
            if name != "__pycache__":
                with open(os.path.join(FOLDER, name), encoding="utf-8", newline="") as file:
                    sources[name] = file.read()
        self.assertIn("__init__.py", sources)
        self.assertEqual(faults(sources), [])


if __name__ == "__main__":
    unittest.main()
