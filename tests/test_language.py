"""The package keeps to its part of Python."""

import pathlib
import unittest

import logworth
from language import faults

PACKAGE = pathlib.Path(logworth.__file__).parent

REFUSED = [
    "import math",
    "from math import gcd",
    "from . import study",
    "from logworth.ratio import *",
    "from logworth.ratio import whole as entire",
    "print(1)",
    "VALUE = 0.5",
    "VALUE = b'a'",
    "VALUE = 'a %s'",
    "VALUE = OTHER = 1",
    "def half(number):\n    return number / 2",
    "def power(number):\n    return 2 ** number",
    "def swap(first, second):\n    first, second = second, first",
    "def many(*numbers):\n    return numbers",
    "def many(**numbers):\n    return numbers",
    "def each(numbers):\n    yield numbers",
    "def hash(number):\n    return number",
    "def shown(number):\n    print(number)",
    "def named(_number):\n    return 1",
    "def mapped(numbers):\n    return {number: 1 for number in numbers}",
    "def mapped(numbers):\n    return sum(number for number in numbers)",
    "def mapped(rows):\n    return [number for row in rows for number in row]",
    "def same(first, second):\n    return first is second",
    "def sorting(numbers):\n    numbers.sort()",
    "def late():\n    from logworth.ratio import whole\n    return whole(1)",
    "def caught():\n    try:\n        return 1\n    except Exception:\n        return 2",
    "def caught():\n    try:\n        return 1\n    finally:\n        return 2",
    "def walked(numbers):\n    for number in numbers:\n        pass\n    else:\n        return 1",
    "def checked(number):\n    assert number",
    "def given(number):\n    return (other := number)",
    "class Kept:\n    'A text.'\n    value = 1",
    "class Kept(int, str):\n    'A text.'",
    "# a type",
    "# \xe9",
    "# " + "a" * 120,
    "\n" * 400,
    "def long():\n" + "    pass\n" * 40,
    "def tabbed():\n\treturn 1",
]


class Language(unittest.TestCase):
    def test_the_package(self):
        sources = {path.name: path.read_text(encoding="utf-8") for path in PACKAGE.glob("*.py")}
        self.assertIn("study.py", sources)
        self.assertEqual(faults(sources), [])

    def test_nothing_else_lies_in_the_package(self):
        others = [path.name for path in PACKAGE.iterdir() if path.suffix != ".py" and path.name != "__pycache__"]
        self.assertEqual(others, [])

    def test_other_code_is_found(self):
        for source in REFUSED:
            with self.subTest(source=source[:60]):
                self.assertNotEqual(faults({"sample.py": source}), [])

    def test_names_that_hide_others(self):
        ratio = "def whole(number):\n    return number"
        for use in ("whole", "Kept"):
            sources = {
                "ratio.py": ratio,
                "sample.py": "from logworth.ratio import whole\n\n\nclass Kept:\n    'A text.'\n\n\n"
                             "def first(%s):\n    return 1" % use,
            }
            self.assertEqual([fault.split(":")[1] for fault in faults(sources)], [" L15"])

    def test_files_that_draw_from_one_another(self):
        sources = {
            "one.py": "from logworth.two import second\n\n\ndef first():\n    return second()",
            "two.py": "from logworth.three import third\n\n\ndef second():\n    return third()",
            "three.py": "from logworth.one import first\n\n\ndef third():\n    return first()",
        }
        self.assertEqual(len(faults(sources)), 3)
        sources["three.py"] = "def third():\n    return 1"
        self.assertEqual(faults(sources), [])
        sources["one.py"] = "from logworth.two import third\n\n\ndef first():\n    return third()"
        self.assertEqual(len(faults(sources)), 1)

    def test_a_method_and_a_value_of_one_name(self):
        kept = "class Kept:\n    'A text.'\n\n    def __init__(self):\n        self.%s = 1"
        asked = "\n\n\nclass Asked:\n    'A text.'\n\n    def number(self):\n        return 1"
        self.assertEqual(faults({"sample.py": kept % "place" + asked}), [])
        self.assertEqual(len(faults({"sample.py": kept % "number" + asked})), 1)

    def test_file_names(self):
        for name in ("Study.py", "test_study.py", "sum.py", "_own.py", "two words.py"):
            with self.subTest(name=name):
                self.assertNotEqual(faults({name: ""}), [])
        self.assertEqual(faults({"__init__.py": "", "ratio.py": ""}), [])


if __name__ == "__main__":
    unittest.main()
