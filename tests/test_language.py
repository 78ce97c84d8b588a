"""The package's files keep to ../shared/LANGUAGE.md, as far as their form shows it."""

import ast
import pathlib
import unittest

import language_rules

FOLDER = pathlib.Path(__file__).resolve().parent.parent / language_rules.PACKAGE

# A source that keeps to the rules, so that the samples below fail for their own fault alone.
GOOD = '''"""A module."""

from __future__ import annotations
from shinglelap.errors import NoRoof

LIMIT = 20
NAMES = ("one", "two")
PLACES = {"one": 1, "two": 2}
ORDER = ["one", "two"]


class Pile:
    def __init__(self, rows):
        self.rows = list(rows)
        self.tall = 0
        self.count = 0

    def __len__(self):
        return len(self.rows)

    def grow(self, row=None):
        if row is None:
            raise NoRoof(f"no row in {row!r}")
        self.tall += len(row) ** 2
        self.rows.append([number for number in row if number > 0])
        return sorted(self.rows, key=lambda each: each[0])


class Heap(Pile):
    def __init__(self, rows):
        Pile.__init__(self, rows)

    def __repr__(self):
        return repr(self.rows)

    def longest(self):
        return max(self.rows, key=len, default=None)


def walked(pairs):
    for key, value in pairs.items():
        try:
            found = pairs[key] // value
        except KeyError:
            continue
        if found in (1, 2) and not key == 3:
            break
    return [list(reversed(NAMES)), {1: True}, "x" if pairs else "y"]


def placed(text, others):
    try:
        return int(text)
    except ValueError as e:
        raise NoRoof("no number") from e


def told(value, others):
    if isinstance(value, Pile) or isinstance(value, (int, NoRoof)):
        return list(ORDER)
    known = len(set(others) - set(ORDER)) + PLACES["one"]
    for place, each in enumerate(others, start=1):
        known = known + place
    return ", ".join([str(known)]) in {"a", "b"}


def guarded(value):
    try:
        return told(value, NAMES)
    except NoRoof:
        return "a\\tb"
'''

BAD = (
    ("L2", "from os import path\n"),
    ("L2", "from .errors import NoRoof\n"),
    ("L2", "from shinglelap.errors import *\n"),
    ("L2", "from shinglelap import errors\n"),
    ("L2", "from shinglelap.__main__ import run\n"),
    ("L2", "def made():\n    from shinglelap.errors import NoRoof\n    return NoRoof\n"),
    ("L3", "if 1 < 2:\n    pass\n"),
    ("L3", "for place in (1, 2):\n    pass\n"),
    ("L3", "LIMIT = len((1, 2))\n"),
    ("L4", "def made(*rows):\n    return rows\n"),
    ("L4", "def made(**rows):\n    return rows\n"),
    ("L4", "def made(row, *, other):\n    return row\n"),
    ("L4", "def made(row, /):\n    return row\n"),
    ("L4", "def wrap(made):\n    return made\n\n\n@wrap\ndef other():\n    return 1\n"),
    ("L4", "def made(row, other=len):\n    return row\n"),
    ("L4", "def made(row, other=list()):\n    return row\n"),
    ("L4", "def made(row: len(1)):\n    return row\n"),
    ("L5", "class Pile:\n    tall = 1\n"),
    ("L5", "class Pile(ValueError, KeyError):\n    pass\n"),
    ("L5", "class Pile:\n    def __add__(self, other):\n        return 1\n"),
    ("L6", "def made(row):\n    assert row\n"),
    ("L6", "def made(row):\n    del row[0]\n"),
    ("L6", "def made(row):\n    with row:\n        pass\n"),
    ("L6", "def made(row):\n    one = other = row\n    return one\n"),
    ("L6", "def made(row):\n    for each in row:\n        pass\n    else:\n        return 1\n"),
    ("L6", "def made(row):\n    try:\n        row.pop()\n    finally:\n        return 1\n"),
    ("L6", "def made(row):\n    try:\n        row.pop()\n    except:\n        return 1\n"),
    ("L6", "def made(row):\n    row == 1\n"),
    ("L6", "def made(row):\n    global LIMIT\n    return 1\n"),
    ("L7", "def made(row):\n    yield row\n"),
    ("L7", "def made(row):\n    return 1.5\n"),
    ("L7", "def made(row):\n    return row / 2\n"),
    ("L7", "def made(row):\n    row /= 2\n    return row\n"),
    ("L7", "def made(row):\n    return b'row'\n"),
    ("L7", "def made(row):\n    return sum(each for each in row)\n"),
    ("L7", "def made(row):\n    return {each: 1 for each in row}\n"),
    ("L7", "def made(row):\n    return len({each for each in row})\n"),
    ("L7", "def made(row):\n    return [each for part in row for each in part]\n"),
    ("L7", "def made(row):\n    return [*row]\n"),
    ("L7", "def made(row):\n    return {**row}\n"),
    ("L7", "def made(row):\n    return dict(**row)\n"),
    ("L7", "def made(row):\n    return (own := row)\n"),
    ("L7", "def made(row):\n    return f'{row:3}'\n"),
    ("L7", "def made(row):\n    return f'{row[0]}'\n"),
    ("L8", "def made(row):\n    print(row)\n"),
    ("L8", "def made(row):\n    return filter(None, row)\n"),
    ("L8", "def made(row):\n    return chr(row)\n"),
    ("L8", "def made(row):\n    return __file__\n"),
    ("L10", "LIMIT = 1" + " " * 112 + "\n"),
    ("L10", "def made():\n\treturn 1\n"),
    ("L10", "def made():\n" + "    pass\n" * 40),
    ("L10", "\n" * 401),
    ("L12", "def hidden_one():\n    _row = 1\n    return _row\n"),
    ("L12", "def _hidden():\n    return 1\n"),
    ("L12", "def made(row):\n    return [1 for _ in row]\n"),
    ("L12", "class Pile:\n    def __init__(self):\n        self._row = 1\n"),
    ("L13", "def made(row):\n    return len({1, 2, 3})\n"),
    ("L13", "def made(row):\n    return row(lambda one: 1, lambda one: 2)\n"),
    ("L14", "# a dash \u2013 and a quote \u2019\n"),
    ("L14", "LIMIT = 1\r\n"),
    ("L15", "LIMIT = 1\nLIMIT = 2\n"),
    ("L15", "def made(min):\n    return 1\n"),
    ("L15", "def made(row):\n    next = row\n    return next\n"),
    ("L15", "class Pile:\n    pass\n\n\ndef made(Pile):\n    return 1\n"),
    ("L15", "from shinglelap.rows import joints\n\n\ndef made(row):\n    joints = row\n    return 1\n"),
    ("L15", "def made():\n    class Pile:\n        pass\n"),
    ("L15", "NAMES = ['one']\n\n\ndef made():\n    NAMES.append('two')\n"),
    ("L15", "NAMES = ['one']\n\n\ndef made():\n    NAMES[0] = 'two'\n"),
    ("L15", "NAMES = ['one']\n\n\ndef made():\n    return NAMES\n"),
    ("L15", "NAMES = ['one']\n\n\ndef made():\n    own = NAMES\n    return 1\n"),
    ("L15", "NAMES = [['one'], 'two']\n"),
    ("L15", "NAMES = ['one']\n\n\ndef made():\n    return told(NAMES)\n"),
    ("L15", "NAMES = ['one']\n\n\ndef made(row):\n    row.append(NAMES)\n"),
    ("L16", "import shinglelap.errors\n"),
    ("L16", "import sys\n"),
    ("L17", "# the type of it\n"),
    ("L17", "# a superdataclass\n"),
    ("L17", "def made(row):\n    return row.mro\n"),
    ("L17", "def made(row):\n    return getattr(row, 'tall')\n"),
    ("L17", "def register(row):\n    return 1\n"),
    ("L17", "def made(row):\n    return row.f_back\n"),
    ("L17", "def made(row):\n    return row.format(1)\n"),
    ("L18", "class Pile:\n    def one(self):\n        return 1\n\n    def one(self):\n        return 2\n"),
    ("L18", "class Pile:\n    pass\n\n\ndef made():\n    return Pile\n"),
    ("L18", "from shinglelap.errors import NoRoof\n\n\ndef made():\n    return [NoRoof]\n"),
    ("L18", "class Pile(StopIteration):\n    pass\n"),
    ("L18", "class Pile(AttributeError):\n    pass\n"),
    ("L18", "class Pile(list):\n    pass\n"),
    ("L18", "class Pile:\n    pass\n\n\ndef made():\n    Pile.tall = 1\n"),
    ("L19", "def made(row):\n    try:\n        row.pop()\n    except Exception:\n        return 1\n"),
    ("L19", "def made(row):\n    try:\n        row.pop()\n    except (KeyError, TypeError):\n        return 1\n"),
    ("L19", "def made(row):\n    try:\n        made(row)\n    except ValueError:\n        return 1\n"),
    ("L19", "def made(row):\n    try:\n        int(row)\n        pass\n    except ValueError:\n        return 1\n"),
    ("L19", "def made(row):\n    try:\n        return int(row * 2)\n    except ValueError:\n        return 1\n"),
    ("L19", "def made(row):\n    try:\n        return int(row[1:])\n    except ValueError:\n        return 1\n"),
    ("L19", "def made(row):\n    try:\n        return made(row)[0]\n    except IndexError:\n        return 1\n"),
    ("L19", "from shinglelap.errors import NoRoof\n\n\ndef made():\n    raise NoRoof\n"),
    ("L19", "from shinglelap.errors import NoRoof\n\n\ndef made(own):\n    raise NoRoof('') from own\n"),
    ("L20", "def made(row):\n    return row is 1\n"),
    ("L21", "def made(row):\n    own: int\n    return 1\n"),
    ("L21", "def made(row):\n    row[0]: int = 1\n    return 1\n"),
    ("L21", "class Pile:\n    def __init__(self):\n        self.tall: int = 1\n"),
    ("L21", "def made(row):\n    def inner(own: int):\n        return own\n\n    return inner(row)\n"),
    ("L22", "def made(row):\n    own = len\n    return own(row)\n"),
    ("L22", "def made(row):\n    return sorted(row, key=reversed)\n"),
    ("L22", "def made(row, own):\n    return sorted(row, reverse=own)\n"),
    ("L22", "def made(row):\n    return int(row, base=2)\n"),
    ("L22", "def made(row):\n    return row.split(sep='a')\n"),
    ("L22", "def made(row):\n    return isinstance(row, set)\n"),
    ("L23", "def made(row):\n    pairs = zip(row, row)\n    return 1\n"),
    ("L23", "def made(row):\n    return reversed(row)\n"),
    ("L23", "def made(row):\n    return made(range(3))\n"),
    ("L23", "def made(row):\n    return 1 in row.values()\n"),
    ("L23", "def made(row):\n    return max(1, range(3))\n"),
    ("L23", "def made(row):\n    return list(zip(row, reversed(row)))\n"),
    ("L23", "def made(row):\n    for each in row:\n        row.append(each)\n"),
    ("L23", "def made(row):\n    for place, each in enumerate(row):\n        row[place] = 1\n"),
    ("L23", "def made(row):\n    for key, value in row.items():\n        row.pop(key)\n        return 1\n"),
    ("L24", "def made(row):\n    return sum(set(row))\n"),
    ("L24", "def made(row):\n    return sorted(set(row), reverse=True)\n"),
    ("L24", "def made(row):\n    return [set(row)]\n"),
    ("L24", "def made(row):\n    return set(row) < set(row)\n"),
    ("L24", "def made(row):\n    own = set(row)\n    return 1\n"),
    ("L24", "def made(row):\n    for each in set(row):\n        pass\n"),
    ("L25", "def made(row):\n    row.sort()\n"),
    ("L25", "def made(row):\n    grow = row.append\n    return grow(1)\n"),
    ("L25", "def made(row):\n    return made(row.index)\n"),
    ("L26", "class Pile:\n    def __init__(self):\n        self.items = 1\n"),
    ("L26", "class Pile:\n    def __init__(self):\n        self.args = 1\n"),
    ("L26", "class Pile:\n    def __init__(self):\n        self.real = 1\n"),
    ("L26", "class Pile:\n    def sort(self):\n        return 1\n"),
    ("L27", "def made(row):\n    return 'a\\x41'\n"),
    ("L27", "LIMIT = 1" + "0" * 900 + "\n"),
    ("L27", "def made(row):\n    return 2 ** row\n"),
    ("L27", "def made(row):\n    return 'half: 50%'\n"),
    ("L28", "class Pile:\n    def __init__(self):\n        return None\n"),
    ("L28", "class Pile:\n    def __len__(self):\n        return self.tall\n"),
    ("L28", "class Pile:\n    def __str__(self):\n        return self.told()\n"),
    ("L28", "class Pile:\n    def __eq__(self, other):\n        self.tall = 1\n        return True\n"),
    ("L28", "class Pile:\n    def __eq__(self, other):\n        self.rows.append(1)\n        return True\n"),
)

BAD_PACKAGES = (
    ("L16", {"shinglelap.one": "from shinglelap.two import made\n", "shinglelap.two": "def other():\n    pass\n"}),
    ("L16", {"shinglelap.one": "from shinglelap.gone import made\n"}),
    (
        "L16",
        {
            "shinglelap.one": "from shinglelap.two import made\n",
            "shinglelap.two": "from shinglelap.three import made\n",
            "shinglelap.three": "def made():\n    pass\n",
        },
    ),
    (
        "L16",
        {
            "shinglelap.one": "from shinglelap.two import TWO\n\nONE = 1\n",
            "shinglelap.two": "from shinglelap.three import THREE\n\nTWO = 2\n",
            "shinglelap.three": "from shinglelap.one import ONE\n\nTHREE = 3\n",
        },
    ),
    ("L16", {"shinglelap.__init__": "rows = 1\n", "shinglelap.rows": ""}),
    (
        "L18",
        {
            "shinglelap.one": "class One:\n    def tall(self):\n        return 1\n",
            "shinglelap.two": "class Two:\n    def __init__(self):\n        self.tall = 1\n",
        },
    ),
)


def package_files():
    return sorted(path for path in FOLDER.iterdir() if path.name != "__pycache__")


def package_texts():
    return {f"{language_rules.PACKAGE}.{path.stem}": path.read_bytes().decode("utf-8") for path in package_files()}


class PackageTest(unittest.TestCase):
    def test_names_of_files(self):
        self.assertEqual(language_rules.file_name_faults([path.name for path in package_files()]), [])

    def test_each_file(self):
        texts = package_texts()
        trees = [ast.parse(text) for text in texts.values()]
        own = [name for tree in trees for name in language_rules.own_methods(tree) + language_rules.own_values(tree)]
        for module, text in texts.items():
            with self.subTest(module=module):
                main = module.endswith(".__main__")
                self.assertEqual(language_rules.source_faults(text, main, own), [])

    def test_files_together(self):
        self.assertEqual(language_rules.package_faults(package_texts()), [])

    def test_the_files_are_there(self):
        names = [path.name for path in package_files()]
        for name in (
            "__init__.py", "errors.py", "rows.py", "distances.py", "plan.py", "pairs.py", "heights.py",
            "ledger.py", "onward.py", "turns.py", "laying.py",
        ):
            self.assertIn(name, names)


class RulesTest(unittest.TestCase):
    """That the look-through finds what it is there to find."""

    def test_good_source(self):
        self.assertEqual(language_rules.source_faults(GOOD), [])

    def test_bad_sources(self):
        for rule, text in BAD:
            with self.subTest(rule=rule, text=text):
                self.assertIn(rule, [fault[0] for fault in language_rules.source_faults(text)])

    def test_main_may_read_and_print(self):
        text = 'import sys\n\n\ndef run():\n    print(sys.stdin.read())\n\n\nif __name__ == "__main__":\n    run()\n'
        self.assertEqual(language_rules.source_faults(text, main=True), [])
        self.assertNotEqual(language_rules.source_faults(text), [])

    def test_bad_packages(self):
        for rule, texts in BAD_PACKAGES:
            with self.subTest(rule=rule, texts=texts):
                self.assertIn(rule, [fault[0] for fault in language_rules.package_faults(texts)])

    def test_bad_file_names(self):
        self.assertEqual(language_rules.file_name_faults(["__init__.py", "__main__.py", "rows.py"]), [])
        for name in ("Rows.py", "rows.txt", "my-rows.py", "_rows.py", "site.py", "test_rows.py", "sum.py", "rows"):
            with self.subTest(name=name):
                self.assertNotEqual(language_rules.file_name_faults(["__init__.py", name]), [])
        self.assertNotEqual(language_rules.file_name_faults(["rows.py"]), [])


if __name__ == "__main__":
    unittest.main()
