"""What README.md shows, and the examples of the interface in examples.md, are what the program does."""

import doctest
import pathlib
import unittest

NAMES = ("keeps", "deeds", "rounds", "judging", "sights", "prices", "alike", "dangers", "desks", "texts", "outing",
         "blaming", "costing")
FOLDER = pathlib.Path(__file__).resolve().parent


def outcome(name, text):
    shown = doctest.DocTestParser().get_doctest(text.replace("```", ""), {}, name, name, 0)
    return doctest.DocTestRunner().run(shown)


class ReadmeTest(unittest.TestCase):
    def test_examples(self):
        found = outcome("README.md", (FOLDER.parent / "README.md").read_text(encoding="ascii"))
        self.assertGreater(found.attempted, 5)
        self.assertEqual(found.failed, 0)


class InterfaceTest(unittest.TestCase):
    def test_examples_of_each_section(self):
        sections = (FOLDER / "examples.md").read_text(encoding="ascii").split("\n## ")[1:]
        names = [section.split("\n")[0] for section in sections]
        self.assertEqual(names, [f"quietharm/{name}.py" for name in NAMES])
        for name, section in zip(names, sections):
            with self.subTest(name=name):
                found = outcome(name, section)
                self.assertGreater(found.attempted, 2)
                self.assertEqual(found.failed, 0)


if __name__ == "__main__":
    unittest.main()
