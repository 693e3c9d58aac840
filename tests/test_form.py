"""The form of the code: what can be seen of LANGUAGE.md in the package's files."""

import ast
import pathlib
import re
import unittest

from tests.form import faults, methods_of

PACKAGE = pathlib.Path(__file__).resolve().parent.parent / "reservedtreaty"

BAD = [
    ("x = 1.5\n", "L7 value"),
    ("def f(a):\n    return a / 2\n", "L7 operator"),
    ("def f(a):\n    return 2 ** a\n", "L27 power"),
    ("import os\n", "L3 top"),
    ("from os import path\n", "L2 import"),
    ("def f(*a):\n    return a\n", "L4 star"),
    ("def f(a):\n    return {k: k for k in a}\n", "L6 L7 form"),
    ("def f(a):\n    assert a\n", "L6 L7 form"),
    ("def f(a):\n    b = c = a\n    return b + c\n", "L6 targets"),
    ("def f(a, b):\n    return a is b\n", "L20 is"),
    ("def f(a):\n    return map(a)\n", "L8 name map"),
    ("def f(id):\n    return id\n", "L15 name id"),
    ("def f(a):\n    _b = a\n", "L12 name _b"),
    ("def f(a):\n    a.sort()\n", "L25 method sort"),
    ("def f(a):\n    b = set(a)\n    return len(b)\n", "L24 set"),
    ("def f(a):\n    return a(len)\n", "L22 name len"),
    ("def f(a):\n    b = a.append\n    b(1)\n", "L25 handed on append"),
    ("# of that type\n", "L17 word"),
    ("# \u00e4\n", "L14 sign"),
    ("# " + "x" * 119 + "\n", "L10 line"),
    ("def f(a):\n" + "    a = a + 1\n" * 40, "L10 function"),
]


class Form(unittest.TestCase):
    def test_only_plain_files_lie_in_the_package(self):
        names = [path.name for path in PACKAGE.iterdir() if path.name != "__pycache__"]
        self.assertIn("__init__.py", names)
        for name in names:
            self.assertTrue(re.fullmatch(r"[a-z0-9_]+\.py", name), name)

    def test_each_file_keeps_to_the_language(self):
        paths = sorted(PACKAGE.glob("*.py"))
        methods = methods_of([ast.parse(path.read_text("utf-8")) for path in paths])
        for path in paths:
            self.assertEqual(faults(path.read_text("utf-8"), methods), [], path.name)

    def test_what_is_ruled_out_is_seen(self):
        for text, fault in BAD:
            self.assertIn(fault, faults(text), text)
        self.assertIn("L18 value back", faults("def f(a):\n    a.back = 1\n", ["back"]))


if __name__ == "__main__":
    unittest.main()
