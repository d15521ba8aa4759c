"""The rules of the language, as far as tests/language.py checks them; and that it finds what breaks them."""

import tempfile
import unittest
from pathlib import Path

from tests.language import faults_in

PACKAGE = Path(__file__).parent.parent / "linemix"
LISTED = (
    "errors", "numbers", "places", "orders", "shapes", "lines", "swaps", "ties", "texts", "pairs", "leading", "turning",
    "rings", "lots", "chains", "counts", "mixes", "papers", "worths", "costs", "splits", "moving", "endless", "games",
    "wholes", "rowing", "families", "rates", "circles", "tworows", "filling", "putting", "series", "products", "commons",
    "onemore", "widths", "tying", "walking", "shares", "calms", "twochains", "quiets", "evens", "odds", "crowns",
    "valuing", "pointlots", "separates", "levels", "bests", "rises", "means", "symmetries", "many", "between", "unseen",
    "desks", "listings",
)

WRONG = (
    ("L2", "import math\n"),
    ("L2", "from random import random\n"),
    ("L2", "from math import sqrt\n"),
    ("L2", "from .numbers import is_int\n"),
    ("L2", "def one():\n    return 1\n\n\nfrom math import gcd\n"),
    ("L3", "for k in (1, 2):\n    pass\n"),
    ("L3", "A = len((1, 2))\n"),
    ("L4", "@classmethods\ndef one():\n    return 1\n"),
    ("L4", "def one(rows=[]):\n    return rows\n"),
    ("L5", "class Box:\n    def __getitem__(self, at):\n        return at\n"),
    ("L5", "class Box:\n    def __iter__(self):\n        return iter([1])\n"),
    ("L5", "class Box:\n    def __add__(self, other):\n        self.many = 1\n        return self\n"),
    ("L5", "class Box:\n    def __eq__(self, other):\n        self.rows[0] = 1\n        return True\n"),
    ("L5", "class Box:\n    @property\n    def many(self):\n        self.rows.append(1)\n        return 1\n"),
    ("L5", "class Box:\n    def __add__(self, other):\n        return grown([], other)\n\n\n"
           "def grown(rows, more):\n    rows.append(more)\n    return rows\n"),
    ("L5", "class Box:\n    def __mul__(self, other):\n        return self.told(len)\n\n"
           "    def told(self, call):\n        return call(self)\n"),
    ("L5", "class Box:\n    def __contains__(self, x):\n        seen = {a: 1 for a in self.rows}\n"
           "        seen[x] = 1\n        return x in seen\n"),
    ("L5", "def one(rows):\n    return reversed(rows)\n"),
    ("L6", "def one():\n    global A\n"),
    ("L7", "def one():\n    return 0.5\n"),
    ("L7", "def one():\n    return 1 / 2\n"),
    ("L7", "def one(rows):\n    return sum(k for k in rows)\n"),
    ("L8", "def one(rows):\n    return filter(None, rows)\n"),
    ("L10", "def one():\n" + "    pass\n" * 40),
    ("L10", "A = 1\n" + "# more\n" * 399),
    ("L10", "A = 1  #" + "x" * 120 + "\n"),
    ("L12", "def __one():\n    return 1\n"),
    ("L12", "A = '_walled'\n"),
    ("L14", "A = '\u00e9'\n"),
    ("L14", "A = 1\t\n"),
    ("L15", "A = 1\nA = 2\n"),
    ("L15", "from math import gcd\n\n\ndef one(gcd):\n    return gcd\n"),
    ("L15", "def one(hash):\n    return hash\n"),
    ("L17", "def one(box):\n    return box.open\n"),
    ("L17", "A = 'enum'\n"),
    ("L19", "def one():\n    try:\n        return 1\n    except TypeError:\n        return 2\n"),
    ("L19", "def one(error):\n    raise error\n"),
    ("L20", "def one(a, b):\n    return a is b\n"),
    ("L23", "def one(rows):\n    for k in rows:\n        rows.append(k)\n"),
    ("L23", "def one(rows):\n    for at, k in enumerate(rows):\n        rows[at] = k\n"),
    ("L23", "def one(table):\n    for k, v in table.items():\n        del table[k]\n"),
    ("L23", "def one(box, more):\n    for k in box.rows or more:\n        more.pop()\n"),
    ("L23", "def one(box):\n    for k in box.rows:\n        box.rows += [k]\n"),
    ("L23", "def one(rows):\n    return [rows.pop() for k in rows]\n"),
    ("L23", "def one():\n    level = [0]\n    while level:\n        wider = []\n        for k in level:\n"
            "            wider.append(k)\n        level = wider\n"),
    ("L23", "def one(box):\n    held = box.rows\n    for k in held:\n        box.rows.append(k)\n"),
    ("L23", "def one(rows, more):\n    a, b = rows, more if more else rows\n    for k in a:\n        b.append(k)\n"),
    ("L12", "def one(pair):\n    _, b = pair\n    return _\n"),
    ("L22", "def one(rows):\n    return sorted(rows, default=1)\n"),
    ("L22", "def one(rows):\n    return enumerate(rows, key=len)\n"),
    ("L23", "def two(rows):\n    return rows\n\n\ndef one(k):\n    return two(range(k))\n"),
    ("L23", "def one(a, b):\n    return zip(a, b)\n"),
    ("L23", "def one(table):\n    rows = [table.items()]\n    return rows\n"),
    ("L23", "def one(rows):\n    return len(enumerate(rows))\n"),
    ("L23", "def one(rows, more):\n    return max(range(3), more)\n"),
    ("L24", "def one(rows):\n    for k in set(rows):\n        return k\n"),
    ("L24", "def one(rows):\n    return {k for k in rows}\n"),
    ("L24", "def one(rows):\n    seen = set()\n    return seen\n"),
    ("L24", "def one(rows):\n    seen = set()\n    seen = set(rows)\n    return len(seen)\n"),
    ("L24", "def one(rows):\n    seen = set(rows)\n    seen.update(rows)\n    return len(seen)\n"),
    ("L25", "def one(rows):\n    rows.sort()\n"),
    ("L27", "def one(n):\n    return 2 ** n\n"),
    ("L27", "A = 'a % b'\n"),
    ("L28", "class Box:\n    def __len__(self):\n        return self.size\n"),
)


class LanguageTest(unittest.TestCase):
    def test_the_package_keeps_the_rules(self):
        self.assertEqual(faults_in(PACKAGE), [])

    def test_each_listed_file_is_there(self):
        names = [path.stem for path in PACKAGE.glob("*.py")]
        for name in LISTED + ("__init__",):
            self.assertIn(name, names)

    def folder_with(self, place, files):
        folder = Path(place) / "pack"
        folder.mkdir()
        for name, source in {"__init__.py": "", **files}.items():
            (folder / name).write_text(source, encoding="utf-8")
        return faults_in(folder)

    def test_it_finds_what_breaks_a_rule(self):
        for rule, source in WRONG:
            with tempfile.TemporaryDirectory() as place:
                faults = self.folder_with(place, {"one.py": source})
            self.assertTrue(any(rule in fault for fault in faults), (rule, source, faults))

    def test_it_finds_wrong_files_and_imports(self):
        for rule, files in (
            ("L1", {"notes.txt": ""}),
            ("L14", {"Big.py": ""}),
            ("L14", {"len.py": ""}),
            ("L16", {"one.py": "from pack.two import b\n", "two.py": "A = 1\n"}),
            ("L16", {"one.py": "from pack.two import B\n\nA = 1\n", "two.py": "from pack.one import A\n\nB = 1\n"}),
        ):
            with tempfile.TemporaryDirectory() as place:
                faults = self.folder_with(place, files)
            self.assertTrue(any(rule in fault for fault in faults), (rule, files, faults))

    def test_it_lets_pass_what_is_right(self):
        source = '"""One."""\n\nfrom math import gcd\n\nMOST = 3\n\n\ndef one(rows):\n    return gcd(max(rows), MOST)\n'
        box = (
            '"""One."""\n\n\nclass Box:\n    def __init__(self, rows):\n        self.rows = rows\n\n'
            "    def __iter__(self):\n        return iter(self.rows)\n\n"
            "    def __add__(self, other):\n        both = list(self.rows)\n        both.append(other)\n"
            "        both[0] = 2\n        return Box(both)\n"
        )
        walks = (
            '"""One."""\n\n\ndef one(rows):\n    found = []\n    for k in list(rows):\n        rows.append(k)\n'
            "    for k in rows:\n        found.append(k)\n    level = rows\n    while level:\n        wider = []\n"
            "        for k in list(level):\n            wider.append(k)\n        level = wider\n    return found\n"
        )
        holds = (
            '"""One."""\n\n\ndef one(rows, more):\n    seen = set()\n    places = range(len(rows))\n'
            "    for at in places:\n        if at not in seen and more == list(range(at)):\n            seen.add(at)\n"
            "    for a, b in zip(rows, enumerate(more)):\n        seen.discard(a)\n"
            "    return sorted(seen), len(set(rows)), sorted({b for b in more}), max(range(3)), list(reversed(range(2)))\n"
        )
        for right in (source, box, walks, holds):
            with tempfile.TemporaryDirectory() as place:
                self.assertEqual(self.folder_with(place, {"one.py": right}), [])


if __name__ == "__main__":
    unittest.main()
