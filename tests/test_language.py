"""The files of the package against the rules of ../shared/LANGUAGE.md, as far as tests/language.py sees them."""

import pathlib
import unittest

from tests.language import complaints

FOLDER = pathlib.Path(__file__).resolve().parent.parent / "lenstree"

PLANTED = [
    ("L2", "import math\n"),
    ("L2", "from os import path\n"),
    ("L2", "from lenstree.b import *\n"),
    ("L2", "from .b import fine\n"),
    ("L3", "x = len([1])\n"),
    ("L3", "x, y = 1, 2\n"),
    ("L3", "print\n"),
    ("L3", "x = {\"a\": [1]}\n"),
    ("L3", "for k in (1, 2):\n    pass\n"),
    ("L4", "def f(x):\n    return x\n\n\n@f\ndef g():\n    return 1\n"),
    ("L6", "def f():\n    global x\n    x = 1\n"),
    ("L7", "def f(x):\n    return x / 2\n"),
    ("L7", "X = 1.5\n"),
    ("L8", "def f(x):\n    return hash(x)\n"),
    ("L8", "def f(x):\n    return x.__dict__\n"),
    ("L8", "def f(x):\n    return chr(x)\n"),
    ("L10", "def f(x):\n" + "    x = x + 1\n" * 40),
    ("L10", "# " + "a" * 119 + "\n"),
    ("L10", "# a\n" * 400),
    ("L12", "def f():\n    _ = 1\n    return _\n"),
    ("L14", "# \t\n"),
    ("L14", "# \u00e9\n"),
    ("L15", "X = 1\nX = 2\n"),
    ("L15", "from lenstree.b import fine\n\n\ndef f(fine):\n    return fine\n"),
    ("L15", "def f():\n    map = 1\n    return map\n"),
    ("L16", "from lenstree.b import borrowed\n"),
    ("L16", "from lenstree.a import f\n\n\ndef f():\n    return 1\n"),
    ("L17", "def f(elements):\n    return elements\n"),
    ("L17", "def f(gc):\n    return gc\n"),
    ("L17", "X = \"an Enum\"\n"),
    ("L19", "def f():\n    try:\n        return 1\n    except TypeError:\n        return 2\n"),
    ("L19", "def f():\n    try:\n        return 1\n    except:\n        return 2\n"),
    ("L20", "def f(x, y):\n    return x is y\n"),
    ("L22", "def f(x):\n    return int(x, base=2)\n"),
    ("L23", "def f(x):\n    for k in x:\n        x.append(k)\n"),
    ("L23", "def f(x):\n    for k, y in x.items():\n        x[k] = y + 1\n"),
    ("L24", "def f(x):\n    return set(x)\n"),
    ("L24", "def f(x):\n    return [k for k in set(x)]\n"),
    ("L25", "def f(x):\n    return x.encode()\n"),
    ("L25", "def f(x):\n    return x.popitem()\n"),
    ("L27", "X = \"50%\"\n"),
    ("L27", "X = \"\\x41\"\n"),
    ("L27", "def f(x):\n    return 1if x else 2\n"),
]


class LanguageTest(unittest.TestCase):
    def test_the_package_keeps_the_rules(self):
        files = {str(path.relative_to(FOLDER)): path.read_text(encoding="utf-8") for path in FOLDER.rglob("*.py")}
        self.assertIn("__init__.py", files)
        self.assertEqual(complaints(files), [])

    def test_the_package_holds_nothing_else(self):
        others = [path for path in FOLDER.rglob("*") if path.suffix != ".py" and "__pycache__" not in path.parts]
        self.assertEqual(others, [])

    def test_the_check_sees_planted_faults(self):
        borrower = "from lenstree.c import borrowed\n\n\ndef fine():\n    return borrowed\n"
        for rule, text in PLANTED:
            files = {"a.py": text, "b.py": borrower, "c.py": "borrowed = 1\n"}
            with self.subTest(rule=rule, text=text):
                found = complaints(files)
                self.assertTrue(any([line.endswith(": " + rule) for line in found]), found)
                self.assertTrue(all([line.startswith("a.py:") for line in found]), found)

    def test_the_check_lets_good_code_pass(self):
        text = (
            "\"\"\"A file.\"\"\"\n\nfrom lenstree.b import fine\n\nSIZE = -3\nTABLE = {\"a\": 1}\n\n\n"
            "def f(rows):\n    seen = {}\n    for _, k in sorted(rows):\n        seen[k] = fine(k)\n"
            "    return [k for k in seen if k in TABLE and k not in {1, 2}], len(set(rows)), seen is None, SIZE // 2\n"
        )
        self.assertEqual(complaints({"a.py": text, "b.py": "def fine(k):\n    return k\n"}), [])


if __name__ == "__main__":
    unittest.main()
