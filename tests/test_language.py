"""The package's files keep to the rules of their form."""

import pathlib
import unittest

import squarehouse
from tests.language import package_faults

FOLDER = pathlib.Path(squarehouse.__file__).parent

# Each rule's number, and a file that breaks it.
BREAKING = (
    ("L2", "import squarehouse\n"),
    ("L2", "from math import gcd\n"),
    ("L2", "from .other import one\n"),
    ("L2", "def one():\n    return 1\n\n\nfrom squarehouse.other import two\n"),
    ("L3", "ONE = len([1])\n"),
    ("L3", "for x in [1]:\n    pass\n"),
    ("L4", "def one(*many):\n    return many\n"),
    ("L5", "class One:\n    two = 3\n"),
    ("L6", "def one(x):\n    assert x\n"),
    ("L6", "def one():\n    x = y = 1\n    return x + y\n"),
    ("L7", "def one(x):\n    return x / 2\n"),
    ("L7", "def one(x):\n    return sum(y for y in x)\n"),
    ("L7", "def one(x):\n    return {y: 1 for y in x}\n"),
    ("L7", "HALF = 0.5\n"),
    ("L8", "def one(x):\n    return pow(x, 2)\n"),
    ("L8", "def one(x):\n    print(x)\n"),
    ("L10", "def one():\n" + "    pass\n" * 40),
    ("L10", "# one\n" * 401),
    ("L10", "# " + "x" * 120 + "\n"),
    ("L12", "def one(_x):\n    return 1\n"),
    ("L14", "# \u00e9\n"),
    ("L15", "ONE = 1\nONE = 2\n"),
    ("L15", "ONE = [[1]]\n"),
    ("L15", "ONE = [1]\n\n\ndef one():\n    return ONE\n"),
    ("L15", "ONE = [1]\n\n\ndef one():\n    ONE.append(2)\n"),
    ("L15", "def one(hash):\n    return hash\n"),
    ("L15", "from squarehouse.other import two\n\n\ndef one(two):\n    return two\n"),
    ("L16", "from squarehouse.other import three\n"),
    ("L16", "from squarehouse.one import one\n\n\ndef one():\n    return 1\n"),
    ("L17", "# a type\n"),
    ("L17", "def one(os):\n    return os\n"),
    ("L18", "class One:\n    def many(self):\n        self.many = 1\n"),
    ("L20", "def one(x, y):\n    return x is y\n"),
    ("L21", "def one(x: int):\n    return x\n"),
    ("L23", "def one():\n    x = range(3)\n    return x\n"),
    ("L23", "def one(xs):\n    for x in xs:\n        xs.append(x)\n"),
    ("L25", "def one(xs):\n    xs.sort()\n"),
    ("L27", "def one(n):\n    return 2 ** n\n"),
    ("L27", "ONE = \"1 % 2\"\n"),
    ("L4", "def one():\n    def two():\n        return 2\n    return two()\n"),
    ("L4", "def one(x=1):\n    return x\n"),
    ("L8", "def one():\n    return __name__\n"),
    ("L9", "def one():\n    print(1)\n"),
    ("L9", "def one():\n    return open(1)\n"),
    ("L11", "def one(x):\n    return one(x)\n"),
    ("L11", "def one(x):\n    return two(x)\n\n\ndef two(x):\n    return one(x)\n"),
    ("L11", "def one(xs):\n    return set(xs).pop()\n"),
    ("L13", "def one():\n    return {1, 2, 3}\n"),
    ("L13", "def one():\n    return [lambda x: x, lambda x: 1]\n"),
    ("L18", "class One:\n    pass\n\n\ndef one():\n    return [One]\n"),
    ("L18", "class One:\n    pass\n\n\ndef one():\n    One.many = 1\n"),
    ("L19", "def one(xs):\n    try:\n        return xs[0]\n    except Exception:\n        return 0\n"),
    ("L19", "def one():\n    raise ValueError\n"),
    ("L22", "def one(xs):\n    size = len\n    return size(xs)\n"),
    ("L22", "def one(xs):\n    return dict(a=xs)\n"),
    ("L24", "def one(xs):\n    two = set(xs)\n    return two\n"),
    ("L26", "class One:\n    def __init__(self):\n        self.items = []\n"),
    ("L26", "class One:\n    def encode(self):\n        return 1\n"),
    ("L27", "def one():\n    return chr(65)\n"),
    ("L27", "ONE = \"\\x41\"\n"),
    ("L28", "class One:\n    def __init__(self):\n        return None\n"),
    ("L28", "class One:\n    def __len__(self):\n        return 1 + 1\n"),
)
EVERY_RULE = [f"L{number}" for number in range(1, 29)]


class Language(unittest.TestCase):
    def test_nothing_else_lies_in_the_package(self):
        found = [path.name for path in FOLDER.iterdir() if path.name != "__pycache__"]
        self.assertIn("__init__.py", found)
        self.assertEqual([name for name in found if not name.endswith(".py")], [])

    def test_the_files_keep_to_the_rules(self):
        texts = {path.name: path.read_text(encoding="utf-8") for path in FOLDER.glob("*.py")}
        self.assertEqual(package_faults(texts), [])

    def test_the_files_end_as_texts_do(self):
        for path in FOLDER.glob("*.py"):
            held = path.read_bytes()
            self.assertTrue(held.endswith(b"\n"), path)
            self.assertNotIn(b"\r", held)

    def test_a_broken_rule_is_found(self):
        for rule, text in BREAKING:
            with self.subTest(rule, text=text):
                texts = {"__init__.py": "", "other.py": "def two():\n    return 2\n", "one.py": text}
                self.assertIn(rule, [fault[1] for fault in package_faults(texts)])

    def test_every_rule_is_looked_for(self):
        # L1 is looked for by the files' names.
        self.assertEqual(sorted({rule for rule, text in BREAKING} | {"L1"}), sorted(EVERY_RULE))
        self.assertIn("L1", [fault[1] for fault in package_faults({"__init__.py": "", "One.py": ""})])

    def test_what_keeps_the_rules_is_not_found(self):
        text = ("ONE = 1\n\n\ndef one(xs):\n    return [x + ONE for x in xs if x > 0]\n\n\n"
                "class Two:\n    def __init__(self):\n        self.three = one([1])\n\n"
                "    def four(self):\n        return Two().three\n\n\nFIVE = {1: (one, 2)}\n")
        self.assertEqual(package_faults({"__init__.py": "", "one.py": text}), [])

    def test_a_wrong_name_of_a_file_is_found(self):
        for name in ("test_one.py", "len.py", "One.py", "site.py", "enum.py"):
            self.assertTrue(package_faults({"__init__.py": "", name: ""}))
        self.assertEqual(package_faults({"__init__.py": "", "one.py": ""}), [])
        self.assertTrue(package_faults({"one.py": ""}))


if __name__ == "__main__":
    unittest.main()
