"""The package keeps to its part of Python, and so uses no clock, chance or files."""

import pathlib
import re
import unittest

import fitboard
from language_check import faults, package_faults

FOLDER = pathlib.Path(fitboard.__file__).parent

OUTSIDE = [
    "import time\n", "import random\n", "import os\n", "from time import time\n", "from . import errors\n",
    "from fitboard.errors import *\n", "def f():\n    import time\n", "def f():\n    return open('x')\n",
    "def f(x):\n    print(x)\n", "def f():\n    return eval('1')\n", "def f():\n    return __import__('os')\n",
    "def f(*xs):\n    return xs\n", "def f(**xs):\n    return xs\n", "def f(x, *, y):\n    return x\n",
    "def f(x):\n    return x / 2\n", "X = 0.5\n", "X = b'x'\n", "def f(x):\n    return {y for y in x}\n",
    "def f(x):\n    return {y: y for y in x}\n", "def f(x):\n    return sum(y for y in x)\n",
    "def f(x):\n    return [a for b in x for a in b]\n", "def f(x):\n    a = b = x\n", "def f(x):\n    yield x\n",
    "def f(x):\n    assert x\n", "def f(x):\n    del x[0]\n", "def f(x):\n    with x:\n        pass\n",
    "def f(x):\n    for y in x:\n        pass\n    else:\n        pass\n", "def f(x):\n    global y\n",
    "def f(x):\n    try:\n        pass\n    finally:\n        pass\n", "def f(x):\n    return x.sort()\n",
    "def f(x):\n    if (y := x):\n        return y\n", "def f(x):\n    return [*x]\n", "def f(_x):\n    return 1\n",
    "def f(id):\n    return id\n", "def f(x):\n    list = x\n", "def f(x, y):\n    return x is y\n",
    "def f(x):\n    return f'{x + 1}'\n", "# a type\n", "# caf\u00e9\n", "X = 1\t\n", "# " + "x" * 120 + "\n",
    "def f():\n" + "    pass\n" * 40, "X = 1\n" * 401, "class A:\n    x = 1\n", "class A:\n    'a'\n    x = 1\n",
    "for x in [1]:\n    pass\n", "def f(x):\n    return set(x)\n", "def f(x):\n    return {x}\n",
    "def f(x):\n    return 2 ** x\n", "def f(x):\n    y = zip(x, x)\n    return list(y)\n",
    "def f(x):\n    return x.items()\n", "def f(x):\n    return max(3, range(x))\n", "def f(x: int):\n    return x\n",
    "def f(x) -> int:\n    return x\n", "X = 'a%'\n", "def f(x):\n    return x is 1\n", "X = 1\nX = 2\n",
    "def f():\n    return 1\n\n\ndef f():\n    return 2\n", "class A:\n    pass\n\n\ndef f(A):\n    return 1\n",
    "from fitboard.errors import x\n\n\ndef f():\n    x = 1\n",
]
OUTSIDE_TOGETHER = [
    {"fitboard.a": "from fitboard.b import f\n", "fitboard.b": "X = 1\n"},
    {"fitboard.a": "from fitboard.b import f\n", "fitboard.c": "X = 1\n"},
    {"fitboard.a": "from fitboard.b import f\n", "fitboard.b": "from fitboard.c import f\n",
     "fitboard.c": "def f():\n    return 1\n"},
    {"fitboard.a": "from fitboard.b import Y\nX = 1\n", "fitboard.b": "from fitboard.a import X\nY = 1\n"},
    {"fitboard.a": "from fitboard.b import Y\nX = 1\n", "fitboard.b": "from fitboard.c import Z\nY = 1\n",
     "fitboard.c": "from fitboard.a import X\nZ = 1\n"},
    {"fitboard.a": "class A:\n    def f(self):\n        return 1\n",
     "fitboard.b": "class B:\n    def __init__(self):\n        self.f = 1\n"},
    {"fitboard.a": "class A:\n    def encode(self):\n        return 1\n"},
    {"fitboard.a": "class A:\n    def __init__(self):\n        self.items = 1\n"},
    {"fitboard.a": "def f(x):\n    return x.g()\n\n\ndef g():\n    return 1\n"},
]
WITHIN_TOGETHER = {
    "fitboard.a": "class A:\n    def __init__(self):\n        self.x = [1]\n\n"
                  "    def f(self):\n        return self.x\n",
    "fitboard.b": "from fitboard.a import A\n\n\ndef g(y):\n    return [z for z in zip(A().f(), sorted(y))]\n",
}


class LanguageTest(unittest.TestCase):
    def test_each_file_of_the_package_keeps_to_the_rules(self):
        files = sorted(FOLDER.glob("*.py"))
        for name in ("__init__.py", "errors.py", "shelf.py", "needs.py", "lines.py", "search.py"):
            self.assertIn(name, [file.name for file in files])
        sources = {"fitboard." + file.stem: file.read_text(encoding="utf-8") for file in files}
        self.assertEqual(package_faults(sources), [])

    def test_nothing_else_lies_in_the_package(self):
        for file in FOLDER.iterdir():
            if file.name != "__pycache__":
                self.assertTrue(re.fullmatch(r"__init__\.py|[a-z][a-z0-9_]*\.py", file.name), file.name)

    def test_what_lies_outside_the_rules_is_found(self):
        for source in OUTSIDE:
            self.assertNotEqual(faults(source), [], source)
        for sources in OUTSIDE_TOGETHER:
            self.assertNotEqual(package_faults(sources), [], sources)

    def test_what_lies_within_the_rules_is_not(self):
        self.assertEqual(package_faults(WITHIN_TOGETHER), [])


if __name__ == "__main__":
    unittest.main()
