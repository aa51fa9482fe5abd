"""The files of the package keep to ../shared/LANGUAGE.md; and what reads that off finds what breaks it."""

import pathlib
import unittest
import warnings

from language import faults

FOLDER = pathlib.Path(__file__).resolve().parent.parent / "quietharm"

BROKEN = [
    ("L2", "import sys\n"),
    ("L2", "def told():\n    from quietharm.other import some\n    return some\n"),
    ("L2", "A = 1\nfrom quietharm.other import some\n"),
    ("L3", "A, B = 0, 1\n"),
    ("L3", "A = len('x')\n"),
    ("L3", "for k in (1, 2):\n    pass\n"),
    ("L4", "def told(k, /):\n    return k\n"),
    ("L4", "def told(k=[n for n in ()]):\n    return k\n"),
    ("L4", "@some\ndef told(k):\n    return k\n"),
    ("L5", "class Box:\n    def __hash__(self):\n        return 1\n"),
    ("L5", "class Box:\n    k: int = 1\n"),
    ("L5", "@some\nclass Box:\n    pass\n"),
    ("L6", "def told():\n    global k\n    k = 1\n"),
    ("L6", "async def told():\n    return 1\n"),
    ("L6", "def told(xs):\n    xs[1:2] += [3]\n"),
    ("L6", "def told(xs):\n    xs\n"),
    ("L6", "def told(xs):\n    assert (xs, 1)\n"),
    ("L6", "def told(xs):\n    try:\n        pass\n    except:\n        pass\n"),
    ("L6", "def told(xs):\n    try:\n        pass\n    except* ValueError:\n        pass\n"),
    ("L7", "def told():\n    return 1.5\n"),
    ("L7", "def told(k):\n    return k / 2\n"),
    ("L7", "def told(xs):\n    return any(x for x in xs)\n"),
    ("L8", "def told(k):\n    return hash(k)\n"),
    ("L8", "def told(k):\n    print(k)\n    return map(k, k)\n"),
    ("L10", "A = 1\n" * 400),
    ("L10", "def told():\n" + "    told()\n" * 40),
    ("L10", "A = '" + "x" * 120 + "'\n"),
    ("L10", "A = 1\t\n"),
    ("L12", "def told():\n    _ = 1\n    return _\n"),
    ("L12", "def told(box):\n    return box._k\n"),
    ("L13", "def told(k):\n    seen = {1, 2, 3}\n    return k in seen\n"),
    ("L14", "# caf\u00e9\n"),
    ("L15", "A = 1\nA = 2\n"),
    ("L15", "A = [[1]]\n"),
    ("L15", "def told(min):\n    return min\n"),
    ("L15", "class Box:\n    pass\ndef told(Box):\n    return Box\n"),
    ("L16", "from quietharm.other import nothing\n"),
    ("L16", "from os import path\n"),
    ("L16", "from .other import some\n"),
    ("L17", "# of one type\n"),
    ("L17", "A = 'the Enum'\n"),
    ("L17", "def told(elements):\n    return elements\n"),
    ("L17", "def told(vars):\n    return vars\n"),
    ("L18", "class Box:\n    def many(self):\n        return 1\n\n    def more(self):\n        self.many = 1\n"),
    ("L19", "def told():\n    try:\n        pass\n    except TypeError:\n        pass\n"),
    ("L19", "def told():\n    raise ValueError\n"),
    ("L20", "def told(k):\n    return k is 1\n"),
    ("L21", "def told():\n    k: int\n    return 1\n"),
    ("L22", "def told(xs):\n    return int('1', base=8)\n"),
    ("L23", "def told(xs):\n    k = zip(xs, xs)\n    return list(k)\n"),
    ("L23", "def told(k):\n    return told(range(k))\n"),
    ("L6", "class Box:\n    def __exit__(self, *told):\n        self.k = len(told)\n"),
    ("L6", "class Box:\n    def __exit__(self, *told):\n        for k in told:\n            pass\n"),
    ("L24", "def told(xs):\n    return [x for x in set(xs)]\n"),
    ("L25", "def told(text):\n    return text.format(1)\n"),
    ("L26", "class Box:\n    def __init__(self):\n        self.items = []\n"),
    ("L27", "A = '100%'\n"),
    ("L27", "A = 'a\\x41'\n"),
    ("L27", "def told(k):\n    return 2 ** k\n"),
    ("L27", "def told(k):\n    return chr(k)\n"),
    ("L28", "class Box:\n    def __len__(self):\n        return self.k\n"),
]


def texts():
    return {path.name: path.read_text(encoding="ascii") for path in sorted(FOLDER.glob("*.py"))}


class PackageTest(unittest.TestCase):
    def test_files_keep_to_the_language(self):
        self.assertEqual(faults("quietharm", texts()), [])

    def test_folder_has_only_these_files(self):
        names = sorted(path.name for path in FOLDER.iterdir() if path.name != "__pycache__")
        self.assertEqual(names, sorted(texts()))
        self.assertIn("__init__.py", names)

    def test_python_warns_of_nothing(self):
        with warnings.catch_warnings():
            warnings.simplefilter("error")
            for name, text in texts().items():
                compile(text, name, "exec")


class FaultsTest(unittest.TestCase):
    def test_good_file_has_no_faults(self):
        good = "A = (1, -2)\n\n\ndef told(k, *, by=A):\n    return sorted([k]) if k is None else f'{k}'\n"
        self.assertEqual(faults("quietharm", {"__init__.py": "", "good.py": good}), [])

    def test_each_broken_rule_is_found(self):
        for rule, text in BROKEN:
            with self.subTest(rule=rule, text=text):
                files = {"__init__.py": "", "other.py": "some = 1\n", "broken.py": text}
                with warnings.catch_warnings():
                    warnings.simplefilter("ignore")
                    found = [fault[0] for fault in faults("quietharm", files)]
                self.assertIn(rule, found)

    def test_imports_that_go_round_are_found(self):
        files = {"__init__.py": "", "one.py": "from quietharm.two import b\na = 1\n",
                 "two.py": "from quietharm.one import a\nb = 1\n"}
        self.assertIn(("L16", "one.py", 0), faults("quietharm", files))

    def test_names_of_files(self):
        for name in ("Keeps.py", "test_a.py", "tests.py", "law_1.py", "len.py", "enum.py", "_a.py", "a-b.py"):
            with self.subTest(name=name):
                self.assertIn(("L14", name, 0), faults("quietharm", {"__init__.py": "", name: ""}))

    def test_names_of_packages_and_missing_init(self):
        self.assertEqual(faults("queue", {"__init__.py": ""}), [("L14", "__init__.py", 0)])
        self.assertEqual(faults("quietharm", {"a.py": ""}), [("L14", "__init__.py", 0)])


if __name__ == "__main__":
    unittest.main()
