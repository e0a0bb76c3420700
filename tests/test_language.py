"""Each file of the package keeps to LANGUAGE.md, as far as a short check can see it."""

import os
import unittest

from rules import faults

TOP = os.path.dirname(os.path.dirname(os.path.abspath(__file__)))
PACKAGE = os.path.join(TOP, "swapsheets")

# Each of these small files breaks the rule that is told.
BROKEN = (
    ("L10", "x = 1" + " " * 120 + "\n"), ("L10", "def f(x):\n" + "    x = 1\n" * 40), ("L10", "\n" * 400),
    ("L14", "x = 1\t\n"), ("L14", "# caf\u00e9\n"), ("L14", "x = 1"),
    ("L2", "def f():\n    return 1\n\n\nfrom swapsheets.errors import SheetError\n"),
    ("L2", "from swapsheets.errors import *\n"), ("L2", "from .errors import SheetError\n"),
    ("L2", "from swapsheets.errors import SheetError as error\n"), ("L2", "from math import sqrt\n"),
    ("L2", "from random import random\n"), ("L2", "from swapsheets.nowhere import nothing\n"),
    ("L2", "def f():\n    from math import gcd\n    return gcd(1, 2)\n"),
    ("L16", "import math\n"), ("L16", "from swapsheets.base.formulas import is_number\n"),
    ("L3", "x = len('a')\n"), ("L3", "x, y = 1, 2\n"), ("L3", "for x in (1, 2):\n    pass\n"), ("L3", "x = 1.5\n"),
    ("L4", "def d(f):\n    return f\n\n\n@d\ndef g():\n    return 1\n"), ("L5", "@d\nclass A:\n    pass\n"),
    ("L6", "def f():\n    global x\n"), ("L6", "async def f():\n    return 1\n"),
    ("L6", "def f():\n    try:\n        return 1\n    except:\n        return 2\n"),
    ("L7", "def f(x):\n    return x / 2\n"), ("L7", "def f(x):\n    return x * 0.5\n"),
    ("L7", "def f(x):\n    x /= 2\n    return x\n"), ("L7", "def f(xs):\n    return any(x for x in xs)\n"),
    ("L8", "def f(x):\n    return hash(x)\n"), ("L8", "def f(x):\n    return round(x)\n"),
    ("L8", "def f(x):\n    print(x)\n"), ("L8", "def f(x):\n    return x.__class__\n"),
    ("L8", "def f(x):\n    return float(x)\n"), ("L8", "def __f(x):\n    return x\n"),
    ("L12", "_law_x = 1\n"), ("L12", "def f(x):\n    _, y = x\n    return _\n"), ("L12", "# a _wall\n"),
    ("L15", "def f(max):\n    return max\n"), ("L15", "def f(x):\n    sum = x\n    return sum\n"),
    ("L15", "def f():\n    return 1\n\n\ndef f():\n    return 2\n"), ("L15", "def hash(x):\n    return x\n"),
    ("L15", "from math import gcd\n\n\ndef f(gcd):\n    return gcd\n"),
    ("L15", "def f():\n    class A:\n        pass\n    return A\n"),
    ("L17", "def f(register):\n    return register\n"), ("L17", "def f(x):\n    return x.mro\n"),
    ("L17", "def f(x):\n    vars = x\n    return vars\n"), ("L17", "x = 'typing'\n"), ("L17", "def f(Enum):\n    return 1\n"),
    ("L19", "def f():\n    try:\n        return 1\n    except TypeError:\n        return 2\n"),
    ("L19", "def f(x):\n    raise x\n"), ("L20", "def f(x, y):\n    return x is y\n"),
    ("L23", "def f(xs):\n    for x in xs:\n        xs.append(x)\n"),
    ("L23", "def f(xs):\n    for k, x in enumerate(xs):\n        xs[k] = x + 1\n"),
    ("L23", "def f(d):\n    for k, x in d.items():\n        del d[k]\n"),
    ("L23", "def f(xs, ys):\n    for x in xs if ys else ys:\n        ys.pop()\n"),
    ("L23", "def f(box):\n    for x in box.rows:\n        box.rows += [x]\n"),
    ("L23", "def f(xs):\n    ys = xs\n    for x in xs:\n        ys.append(x)\n"),
    ("L23", "def f(d):\n    for _ in range(2):\n        e = {}\n        for k in d:\n            e[k] = 1\n        d = e\n"),
    ("L24", "def f(xs):\n    return [x for x in set(xs)]\n"),
    ("L24", "def f(xs):\n    return sorted(set(xs), reverse=True)\n"), ("L24", "def f(x):\n    return {x, 1}\n"),
    ("L25", "def f(x):\n    return x.format(1)\n"), ("L25", "def f(x):\n    return x.union(x)\n"),
    ("L25", "def f(x):\n    return x.split(sep=',')\n"), ("L25", "def f(x):\n    x.popitem()\n"),
    ("L27", "def f(x, y):\n    return x ** y\n"), ("L27", "def f(x):\n    return x ** 65\n"), ("L27", "x = '5 %'\n"),
    ("L27", "def f(x):\n    for n in range(99):\n        x = x ** n\n    return x\n"), ("L27", "x = 'a\\x07'\n"),
)
GOOD = (
    "from math import gcd\n\nLIMIT = 10 ** 60\n\n\ndef f(xs):\n    return sorted(set(xs))[::-1], gcd(1, 2)\n",
    "def f(x):\n    return [x ** n for n in range(9)], x.split(','), x is None, len({y for y in x})\n",
    "def f(d):\n    for _ in range(2):\n        e = {}\n        for k in list(d):\n            e[k] = 1\n        d = e\n",
    "def f(xs):\n    ys = []\n    for k, x in enumerate(xs):\n        ys.append(x)\n        ys[k] = 1\n    return ys\n",
    "from swapsheets.errors import SheetError\n\n\nclass A(SheetError):\n    \"\"\"A type.\"\"\"\n",
)


def package_texts():
    """The dict from paths, like swapsheets/errors.py, to texts of all files of the package."""
    found = {}
    for folder, _, names in os.walk(PACKAGE):
        for name in names:
            if "__pycache__" not in folder:
                full = os.path.join(folder, name)
                with open(full, encoding="utf-8", newline="") as file:
                    found[os.path.relpath(full, TOP).replace(os.sep, "/")] = file.read()
    return found


class TestLanguage(unittest.TestCase):
    def test_the_check_finds_what_is_broken(self):
        package = package_texts()
        for rule, text in BROKEN:
            found = faults("swapsheets/new.py", text, {**package, "swapsheets/new.py": text})
            self.assertIn(rule, [fault.split()[0] for fault in found], text)

    def test_the_check_finds_circles(self):
        package = {
            "swapsheets/one.py": "from swapsheets.two import b\n\na = 1\n",
            "swapsheets/two.py": "from swapsheets.one import a\n\nb = 1\n",
        }
        found = faults("swapsheets/one.py", package["swapsheets/one.py"], package)
        self.assertIn("L16", [fault.split()[0] for fault in found])

    def test_the_check_lets_what_is_good(self):
        package = package_texts()
        for text in GOOD:
            self.assertEqual(faults("swapsheets/new.py", text, {**package, "swapsheets/new.py": text}), [], text)

    def test_files(self):
        package = package_texts()
        self.assertIn("swapsheets/errors.py", package)
        self.assertLessEqual(len(package), 100)
        for path in package:
            self.assertRegex(path, r"^(?:[a-z][a-z0-9_]*/)+(?:__init__|[a-z][a-z0-9_]*)\.py$")
            self.assertIn(path.rsplit("/", 1)[0] + "/__init__.py", package)
            self.assertNotIn(path[:-len(".py")] + "/__init__.py", package)
        self.assertFalse([folder for folder, _, _ in os.walk(PACKAGE) if "test" in os.path.basename(folder)])

    def test_each_file_keeps_to_the_rules(self):
        package = package_texts()
        for path, text in package.items():
            with self.subTest(path):
                self.assertEqual(faults(path, text, package), [])
