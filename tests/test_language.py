import importlib.util
import tempfile
import unittest
from pathlib import Path

TOP = Path(__file__).resolve().parent.parent


def load():
    place = importlib.util.spec_from_file_location("language", TOP / ".ci" / "language.py")
    module = importlib.util.module_from_spec(place)
    place.loader.exec_module(module)
    return module


LANGUAGE = load()
GOOD = {
    "__init__.py": "",
    "low.py": '"""Words."""\n\nLIMIT = 4\n\n\nclass Bad(ValueError):\n    """Bad."""\n\n\ndef half(n):\n    return n // 2\n',
    "high.py": "from plum.low import Bad, LIMIT, half\n\n\ndef quarter(n):\n    return half(half(n))\n",
}


class Package(unittest.TestCase):
    def test_the_package_keeps_the_rules(self):
        self.assertEqual(LANGUAGE.faults_of(TOP / "narcissus"), [])


class Checker(unittest.TestCase):
    def faults(self, files, name="plum"):
        """Return the rules that a package breaks which is GOOD but for these files."""
        with tempfile.TemporaryDirectory() as place:
            folder = Path(place) / name
            for path, content in {**GOOD, **files}.items():
                if content is None:
                    continue
                (folder / path).parent.mkdir(parents=True, exist_ok=True)
                data = content if isinstance(content, bytes) else content.encode("utf-8")
                (folder / path).write_bytes(data)
            return sorted({fault[2] for fault in LANGUAGE.faults_of(folder)})

    def assert_rows(self, rows, rules):
        for row in rows:
            with self.subTest(row):
                self.assertEqual(self.faults({"new.py": row}), rules)

    def test_good(self):
        self.assertEqual(self.faults({}), [])

    def test_files(self):
        self.assertEqual(self.faults({"notes.txt": "x"}), ["L1"])
        self.assertEqual(self.faults({"data.json": "{}"}), ["L1"])
        self.assertEqual(self.faults({"Upper.py": ""}), ["L1"])
        self.assertEqual(self.faults({"a-b.py": ""}), ["L1"])
        self.assertEqual(self.faults({"new.py": "def f(:\n"}), ["L1"])
        self.assertEqual(self.faults({"new.py": b'x = "\xff"\n'}), ["L1", "L14"])
        for name in ("test_low.py", "tests/__init__.py", "law_of.py", "len.py", "register.py", "site.py"):
            self.assertEqual(self.faults({name: ""}), ["L14"], name)
        self.assertEqual(self.faults({"sub/new.py": ""}), ["L14"])
        self.assertEqual(self.faults({"sub/__init__.py": "", "sub/new.py": ""}), [])
        self.assertEqual(self.faults({"low/__init__.py": ""}), ["L14", "L16"])
        self.assertEqual(self.faults({"sub/__init__.py": "", "sub/__main__.py": ""}), ["L14"])
        self.assertEqual(self.faults({"__init__.py": None}), ["L14"])
        self.assertEqual(self.faults({"__init__.py": "", "low.py": "", "high.py": ""}, "json"), ["L14"])
        self.assertEqual(self.faults({f"new{at}.py": "" for at in range(97)}), [])
        self.assertEqual(self.faults({f"new{at}.py": "" for at in range(98)}), ["L14"])

    def test_sizes(self):
        lines = "    x = 1\n"
        self.assert_rows(["def f():\n" + lines * 39, "def f():\n" + lines * 39 + "\n\nY = 1\n"], [])
        self.assert_rows(["def f():\n" + lines * 40, "def f(\n    a,\n):\n" + lines * 38], ["L10"])
        self.assert_rows(["class A:\n    @property\n    def f(self):\n" + "        x = 1\n" * 39], ["L10"])
        self.assert_rows(["#\n" * 399, "#\n" * 398 + "#", "\n" * 399], [])
        self.assert_rows(["#\n" * 400, "#\n" * 399 + "#"], ["L10"])
        self.assert_rows(["#" * 120 + "\n"], [])
        self.assert_rows(["#" * 121 + "\n", 'X = "' + "a" * 120 + '"\n'], ["L10"])
        self.assert_rows(["def f():\n\treturn 1\n", "# \t\n"], ["L10"])

    def test_characters(self):
        self.assert_rows(["# ~\n", "# !\n"], [])
        self.assert_rows(["# \u00e9\n", 'X = "\u20ac"\n', "# \x7f\n", "X = 1\r\n", "# \x0c\n", "# \u00a0\n"], ["L14"])

    def test_imports(self):
        self.assert_rows(
            [
                '"""Words."""\nfrom plum.low import half\nfrom plum.high import quarter\n',
                "from heapq import heappop, heappush\nfrom math import gcd\n", "from itertools import product\n",
                "from collections import defaultdict, deque\n", "from __future__ import annotations\nX = 1\n",
            ],
            [],
        )
        self.assert_rows(
            [
                "import os\n", "import sys\n", "from os import path\n", "from plum.low import *\n", "from .low import half\n",
                "from . import low\n", "X = 1\nfrom plum.low import half\n",
                "def f():\n    from plum.low import half\n    return half\n", "import plum.low as low\n", "import plum.low\n",
                "from math import floor\n", "from math import gcd as g\n", "from collections import Counter\n",
                "from itertools import cycle\n", "from random import random\n", "from time import time\n",
                "import math\n", "from heapq import *\n", "from pluma.low import half\n",
            ],
            ["L2"],
        )
        self.assert_rows(["if True:\n    from plum.low import half\n"], ["L2", "L3"])
        self.assert_rows(
            [
                "from plum.low import third\n", "from plum import low\n", "from plum.missing import half\n",
                "from plum.high import half\n",
            ],
            ["L16"],
        )
        self.assert_rows(["from plum.new import f\n\n\ndef f():\n    return 1\n"], ["L15", "L16"])

    def test_import_of_main(self):
        main = "import sys\nfrom plum.low import half\n\n\ndef main():\n    print(half(4))\n"
        last = '\n\nif __name__ == "__main__":\n    sys.exit(main())\n'
        self.assertEqual(self.faults({"__main__.py": main + last}), [])
        self.assertEqual(self.faults({"__main__.py": main, "new.py": "from plum.__main__ import main\n"}), ["L2"])
        self.assertEqual(self.faults({"__main__.py": "import sys as s\n"}), ["L2"])
        self.assertEqual(self.faults({"__main__.py": "import os\n"}), ["L2"])

    def test_circles_of_imports(self):
        self.assertEqual(
            self.faults({
                "one.py": "from plum.two import b\n\n\ndef a():\n    return b()\n",
                "two.py": "from plum.three import c\n\n\ndef b():\n    return c()\n",
                "three.py": "from plum.one import a\n\n\ndef c():\n    return a()\n",
            }),
            ["L16"],
        )
        self.assertEqual(self.faults({"__init__.py": "from plum.low import half\n"}), [])
        self.assertEqual(self.faults({"__init__.py": "from plum.high import quarter\n"}), ["L16"])

    def test_module_level(self):
        self.assert_rows(
            [
                '"""Words."""\nX = 1\nY = -1\nZ = "ab" * 3\nW: int = 4\n', "X = [1, (2, None), {'a': True}]\nY = ()\n",
                "def f():\n    return 1\n\n\nX = {'a': f}\nY = [f, (f, 2)]\n", "X = 1 << 4\n",
            ],
            [],
        )
        rows = (
            "X, Y = 1, 2\n", "X = Y = 1\n", "X = [1, *(2, 3)]\n", "X = {**{}}\n", "X = f()\n\n\ndef f():\n    return 1\n",
            "X = {'a': f}\n\n\ndef f():\n    return 1\n", "X = 1\nY = (X, 2)\n", "X = [k for k in (1, 2)]\n",
            "def f():\n    return 1\n\n\nX = f\n", "X = lambda k: k\n", "X = 1\nX += 1\n", "for k in (1, 2):\n    pass\n",
            "if True:\n    X = 1\n", "X = {1, 2}\n", "X = 1 if True else 2\n", "X = (1, 2)[0]\n", "pass\n", "assert True\n",
            "from plum.low import half\nX = [half]\n",
        )
        self.assert_rows(rows, ["L3"])
        rows = ("X = 1\nX = 2\n", "def f():\n    return 1\n\n\nf = 2\n", "from plum.low import half\n\n\nhalf = 2\n")
        self.assert_rows(rows, ["L15"])

    def test_statements(self):
        rows = (
            "def f(x):\n    x == 1\n    return x\n", "def f(x):\n    x\n", "def f(x):\n    x.n\n",
            "def f(x):\n    try:\n        return x[0]\n    except:\n        return 1\n", "def f(x):\n    async def g():\n        return x\n    return 1\n",
        )
        self.assert_rows(rows, ["L6"])
        self.assert_rows(['def f(xs):\n    """Words."""\n    xs.append(1)\n    f(xs)\n', "def f(x):\n    yield x\n"], [])

    def test_methods(self):
        self.assert_rows(
            [
                "def f(x):\n    return ' '.join(x.split(',')) + x.upper()\n", "def f(xs):\n    return xs.index(1) + xs.count(2)\n",
                "class A:\n    def low(self):\n        return 1\n\n\ndef f(a):\n    return a.low()\n",
                "class A:\n    def __init__(self, f):\n        self.act = f\n\n    def go(self):\n        return self.act()\n",
                "class A:\n    def __init__(self):\n        super().__init__()\n",
            ],
            [],
        )
        calls = ("x.symmetric_difference(x)", "x.popitem()", "x.format_map(x)", "x.union(x)", "x.fromkeys(x)", "x.__len__()",
                 "x.isdisjoint(x)", "x.most_common()", "x.low()")
        self.assert_rows([f"def f(x):\n    return {call}\n" for call in calls], ["L25"])

    def test_builtins(self):
        self.assert_rows(
            [
                "def f(xs):\n    return sorted([len(x) for x in xs], reverse=True)\n",
                "def f(x):\n    return isinstance(x, (int, str, bool)) or hasattr(x, 'n')\n",
                "def f(x):\n    return type(x) is int and type(x).__name__ == 'int'\n",
                "def f(x):\n    if x:\n        raise KeyError('x')\n    return next(iter(x), None)\n",
                "class A:\n    @property\n    def f(self):\n        return 1\n",
                "class A:\n    def f(self):\n        return super().f()\n",
                "class A:\n    def __lt__(self, other):\n        return NotImplemented\n",
                "class A:\n    def __init__(self, x):\n        self.hash = x\n\n    def vars(self):\n        return 1\n",
                "def f(x: object) -> float:\n    return list(map(str, x))\n",
            ],
            [],
        )
        calls = (
            "print(x)", "eval(x)", "exec(x)", "hash(x)", "id(x)", "chr(x)", "round(x)",
            "filter(None, x)", "format(x)", "hex(x)", "globals()", "vars(x)", "dir(x)", "callable(x)", "float(x)",
            "object()", "bytearray(x)", "complex(x)", "slice(x)", "ascii(x)", "issubclass(x, x)", "__import__(x)",
            "type(x)", "[map]", "[type]", "[super]", "getattr", "[NotImplemented]", "__name__", "OSError(x)",
            "TimeoutError", "staticmethod(x)", "memoryview(x)", "compile(x)", "delattr(x, x)", "exit()", "Ellipsis",
        )
        self.assert_rows([f"def f(x):\n    return {call}\n" for call in calls], ["L8"])
        self.assert_rows(["def f(x):\n    return open(x)\n", "def f():\n    return input()\n"], ["L17", "L8"])

    def test_names_of_builtins(self):
        rows = (
            "def hash(x):\n    return x\n", "def f(len):\n    return 1\n", "def f():\n    next = 1\n    return 2\n",
            "def f(xs):\n    return [1 for min in xs]\n", "class TimeoutError:\n    pass\n", "filter = 1\n",
            "def f(*map):\n    return 1\n", "class A:\n    def len(self):\n        return 1\n",
            "def f():\n    try:\n        return 1\n    except KeyError as print:\n        return 2\n",
            "def f():\n    def range():\n        return 1\n    return 2\n",
            "def f(x):\n    match x:\n        case sum:\n            return 1\n",
        )
        self.assert_rows(rows, ["L15"])

    def test_names_of_imports_and_classes(self):
        start = "from plum.low import Bad, half\n\n\nclass Box:\n    def half(self):\n        return half(4)\n\n\n"
        self.assert_rows([start + "def f(x):\n    third = half(x)\n    return third\n"], [])
        rows = (
            "def f(half):\n    return 1\n", "def f():\n    Box = 1\n    return 2\n",
            "def f(xs):\n    return [1 for half in xs]\n", "def f():\n    def half(x):\n        return x\n    return 1\n",
            "def f(xs):\n    for Bad in xs:\n        return 1\n",
        )
        self.assert_rows([start + row for row in rows], ["L15"])

    def test_barred_names_and_words(self):
        rows = (
            "def f(x):\n    return x.register\n", "def mro():\n    return 1\n", "def f(law):\n    return 1\n",
            "def f(x):\n    return f(x, elements=1)\n", "class A:\n    def add_note(self):\n        return 1\n",
            "def f():\n    return 'an enum here'\n", "def f(x):\n    return x.Flag\n", "X = 'my_dataclass'\n",
            "def f(x):\n    return f'{x} is Generic'\n",
        )
        self.assert_rows(rows, ["L17"])
        self.assert_rows(['"""An enum, register, 100 %."""\nX = "registers"  # typing\n'], [])

    def test_values(self):
        rows = ("X = 1.5\n", "def f(x):\n    return x / 2\n", "def f(x):\n    x /= 2\n    return x\n", "X = 2j\n")
        self.assert_rows(rows, ["L7"])
        rows = ("X = '5 %'\n", "def f(x):\n    return f'{x} %'\n", "X = '\\r'\n", "X = '\\x41'\n", "X = '\\u20ac'\n")
        self.assert_rows(rows, ["L27"])
        self.assert_rows([r"X = '\n\t\\\'\"'" + "\n", "def f(x):\n    return x // 2 + x % 2\n"], [])


if __name__ == "__main__":
    unittest.main()
