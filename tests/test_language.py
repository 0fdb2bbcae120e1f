"""The package keeps to LANGUAGE.md, file by file; and the look that tells so sees what breaks it."""

import pathlib
import unittest

from tests.subset import package_faults

FOLDER = pathlib.Path(__file__).resolve().parent.parent / "stackproof"

# Code that breaks a rule, and the rule that is told of it.
BROKEN = (
    ("L2", "import math\n"),
    ("L2", "from math import gcd\n"),
    ("L2", "from .other import known\n"),
    ("L2", "def f():\n    return 1\n\n\nfrom stackproof.other import known\n"),
    ("L3", "f(1)\n"),
    ("L3", "A, B = 1, 2\n"),
    ("L3", "A = len('ab')\n"),
    ("L3", "A = [[1]]\n"),
    ("L3", "def f(xs):\n    return xs[0](1)\n"),
    ("L4", "def f():\n    def g():\n        return 1\n    return g()\n"),
    ("L4", "def f(*xs):\n    return xs\n"),
    ("L4", "def f(xs=[]):\n    return xs\n"),
    ("L5", "class Box:\n    for k in (1, 2):\n        pass\n"),
    ("L5", "class Box(ValueError, Exception):\n    pass\n"),
    ("L6", "def f(xs):\n    with xs:\n        return 1\n"),
    ("L6", "def f(xs):\n    try:\n        return xs[0]\n    finally:\n        xs.pop()\n"),
    ("L6", "def f(xs):\n    global COUNT\n    COUNT = 1\n"),
    ("L2", "def f(xs):\n    import math\n    return math\n"),
    ("L6", "def f(xs):\n    xs == 1\n"),
    ("L7", "def f(a):\n    return a / 2\n"),
    ("L7", "def f(a):\n    return 1.5\n"),
    ("L7", "def f(a):\n    return {a}\n"),
    ("L7", "def f(a):\n    return lambda x: x\n"),
    ("L7", "def f(a):\n    return f'{a!r}'\n"),
    ("L8", "def f(a):\n    return hash(a)\n"),
    ("L8", "def f(a):\n    return a.__class__\n"),
    ("L8", "def f(a):\n    print(a)\n"),
    ("L10", "def f(a):\n" + "    a = a + 1\n" * 40),
    ("L10", "# " + "a" * 119 + "\n"),
    ("L10", "A = 1\n" * 400),
    ("L12", "def f(a):\n    __b = a\n    return a\n"),
    ("L12", "# a _wall\n"),
    ("L14", "# \u00e4\n"),
    ("L15", "A = 1\nA = 2\n"),
    ("L15", "A = [1]\n\n\ndef f():\n    A.append(2)\n"),
    ("L15", "A = [1]\n\n\ndef f():\n    A[0] = 2\n"),
    ("L15", "def f(list):\n    return 1\n"),
    ("L15", "from stackproof.other import known\n\n\ndef f(known):\n    return known\n"),
    ("L16", "from stackproof.other import missing\n"),
    ("L16", "from stackproof.third import known\n"),
    ("L16", "from stackproof.third import back\n"),
    ("L17", "def f(a):\n    elements = a\n    return elements\n"),
    ("L17", "def f(a):\n    return 'a type of'\n"),
    ("L18", "class Box:\n    def low(self):\n        return 1\n\n    def low(self):\n        return 2\n"),
    ("L19", "def f(a):\n    raise ValueError('no')\n"),
    ("L18", "class Box:\n    pass\n\n\ndef f():\n    return [Box]\n"),
    ("L19", "def f(a):\n    raise a\n"),
    ("L19", "def f(xs):\n    try:\n        return xs[0]\n    except Exception:\n        return 1\n"),
    ("L19", "def f(xs):\n    try:\n        return xs[0]\n    except ValueError:\n        return 1\n"),
    ("L19", "def f(xs):\n    try:\n        return xs[0]\n    except:\n        return 1\n"),
    ("L19", "class Bad(ValueError):\n    pass\n\n\ndef f(xs):\n    try:\n        return xs()\n"
            "    except Bad as why:\n        return why\n"),
    ("L20", "def f(a, b):\n    return a is b\n"),
    ("L21", "def f(a: int):\n    return a\n"),
    ("L22", "def f(xs):\n    count = len\n    return count(xs)\n"),
    ("L22", "def f(xs):\n    return sorted(xs, reverse=True)\n"),
    ("L23", "def f(xs):\n    row = range(3)\n    return row\n"),
    ("L23", "def f(xs):\n    for x in xs:\n        xs.append(x)\n"),
    ("L25", "def f(a):\n    return a.encode()\n"),
    ("L25", "def f(a):\n    return a.nowhere\n"),
    ("L26", "class Box:\n    def title(self):\n        return 1\n"),
    ("L27", "def f(a):\n    return 'a % b'\n"),
    ("L27", "def f(a):\n    return '\\a'\n"),
    ("L28", "class Box:\n    def __init__(self):\n        return 1\n"),
)

KEPT = '''"""A file."""

from stackproof.other import known

LIMIT = 3
WORDS = {"a": 1, "b": -1}


class Bad(ValueError):
    """An error."""


class Box:
    """A class."""

    def __init__(self, stack):
        self.stack = list(stack)

    def top(self):
        return self.stack[-1]


def lowest(xs):
    """A function that catches an own error."""
    try:
        return total(xs)[0]
    except Bad:
        return 0


def total(xs):
    """A function that raises one."""
    if not xs:
        raise Bad("empty")
    found = 0
    for at, x in enumerate(xs):
        if isinstance(x, int) and x is not None:
            found += x * at
    return [known(found), f"{found} of {len(xs)}", Box(xs).top(), WORDS["a"] + LIMIT]
'''


def around(text, name="box.py"):
    """A package of a few files with this text as one of them."""
    return {
        "__init__.py": "",
        "other.py": "def known(x):\n    return x\n",
        "third.py": "from stackproof.other import known\nfrom stackproof.box import LIMIT\n\n\n"
                    "def back(x):\n    return x\n",
        "box.py": "LIMIT = 3\n",
        name: text,
    }


class Package(unittest.TestCase):

    def test_the_folder_holds_plain_files_alone(self):
        for path in FOLDER.iterdir():
            if path.name == "__pycache__":
                continue
            with self.subTest(name=path.name):
                self.assertTrue(path.is_file())
                self.assertEqual(path.suffix, ".py")

    def test_each_file_keeps_the_rules(self):
        files = {path.name: path.read_text(encoding="utf-8") for path in FOLDER.glob("*.py")}
        self.assertIn("rows.py", files)
        self.assertEqual(package_faults(files), [])


class Look(unittest.TestCase):

    def test_code_that_breaks_a_rule_is_told(self):
        for rule, text in BROKEN:
            with self.subTest(rule=rule, text=text):
                told = [fault for fault in package_faults(around(text)) if fault.startswith(f"box.py: {rule}:")]
                self.assertNotEqual(told, [])

    def test_code_that_keeps_the_rules_is_let_by(self):
        files = around(KEPT)
        del files["third.py"]
        self.assertEqual(package_faults(files), [])

    def test_names_of_files(self):
        for name in ("Box.py", "box.txt", "a-b.py", "__main.py"):
            with self.subTest(name=name):
                self.assertIn(f"{name}: L1: not a plain name of a .py file", package_faults(around("", name)))
        for name in ("test_box.py", "len.py", "typing.py", "law_box.py"):
            with self.subTest(name=name):
                self.assertIn(f"{name}: L14: a name that no file has", package_faults(around("", name)))

    def test_a_package_without_its_own_file(self):
        self.assertIn("L14: no __init__.py", package_faults({"box.py": "A = 1\n"}))


if __name__ == "__main__":
    unittest.main()
